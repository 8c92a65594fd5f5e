/- The document's own words on one token: veilworkref.IsToken answers what token.alone answers. -/
import Derived.Test.YtleaaflcnpmfdaaChain
import Derived.Test.YtleaaflcnpmfdaaRefTok
import Derived.Test.YtleaaflcnpmfdaaAlone
namespace Go.Proofs.Ytleaaflcnpmfdaa
open Go.RowKit
set_option linter.unusedVariables false

theorem extract_all (x : ByteArray) : x.extract 0 x.size = x := by
  apply ByteArray.ext
  simp

theorem first_stop {x : ByteArray} (h0 : 0 < x.size) (hk : ¬ (tokKN x 0).1 = 0) : skipL false x.data.toList 0 = 0 := by
  have hl : 0 < x.data.toList.length := by simpa using h0
  have hg : x.data.toList[0] = x[0] := rfl
  have key : ¬ x[0].toNat = 35 ∧ blank x[0] = false := by
    by_cases h35 : x[0].toNat = 35
    · have e : x[0] = 35 := (byte_eq_iff _ _).2 h35
      exfalso
      apply hk
      have hE : hasEqL x 0 = false := by
        rw [← Bool.not_eq_true, hasEqL_iff x 0 h0]
        rintro ⟨h, _⟩; omega
      simp [tokKN, h0, e, hE, show isL 35 = false from rfl, show isD 35 = false from rfl, show isS 35 = false from rfl]
    · refine ⟨h35, ?_⟩
      rw [← Bool.not_eq_true]
      intro hb
      simp only [blank, decide_eq_true_eq] at hb
      apply hk
      have hE : hasEqL x 0 = false := by
        rw [← Bool.not_eq_true, hasEqL_iff x 0 h0]
        rintro ⟨h, _⟩; omega
      rcases hb with h | h | h
      · have e : x[0] = 32 := (byte_eq_iff _ _).2 h
        simp [tokKN, h0, e, hE, show isL 32 = false from rfl, show isD 32 = false from rfl, show isS 32 = false from rfl]
      · have e : x[0] = 9 := (byte_eq_iff _ _).2 h
        simp [tokKN, h0, e, hE, show isL 9 = false from rfl, show isD 9 = false from rfl, show isS 9 = false from rfl]
      · have e : x[0] = 10 := (byte_eq_iff _ _).2 h
        simp [tokKN, h0, e, hE, show isL 10 = false from rfl, show isD 10 = false from rfl, show isS 10 = false from rfl]
  exact skipL_stop hl key.1 key.2

theorem tokErr_kind {x : ByteArray} {j : Nat} (h : tokErr x j = 0) : ¬ (tokKN x j).1 = 0 := by
  intro h0
  simp [tokErr, h0] at h

theorem alone_scan {x : ByteArray} (h0 : 0 < x.size) (he : tokErr x 0 = 0) (hn : (tokKN x 0).2 = x.size) : scanS x = .inl [⟨(tokKN x 0).1, 0, x⟩] := by
  have hs := first_stop h0 (tokErr_kind he)
  unfold scanS
  obtain ⟨m, hm⟩ : ∃ m, x.size = m + 1 := ⟨x.size - 1, by omega⟩
  simp only [scanF, hs, h0, he, if_true, hn]
  rw [hm]
  simp only [scanF]
  rw [← hm, skipL_end (by simp)]
  simp only [Nat.lt_irrefl, if_false]
  simp only [tokAt, hn, extract_all]
  rfl

theorem isAlone_iff (k a : Int) (x : ByteArray) : isAlone ⟨k, a, x⟩ = true ↔ 0 < x.size ∧ x.size ≤ 6000 ∧ tokErr x 0 = 0 ∧ ((tokKN x 0).1 : Int) = k ∧ (tokKN x 0).2 = x.size := by
  constructor
  · intro h
    simp only [isAlone, Bool.and_eq_true, decide_eq_true_eq] at h
    obtain ⟨⟨h6, he⟩, hm⟩ := h
    have hS := scan_ok he
    generalize hT : scanToks x = T at hm hS
    match T, hm, hS with
    | [u], hm, hS =>
      simp only [Bool.and_eq_true, beq_iff_eq] at hm
      obtain ⟨hk, ht⟩ := hm
      have hux : u.text = x := by
        apply ByteArray.ext
        exact Array.toList_inj.1 ht
      obtain ⟨p, hp, _, hpos, hfit, hex, _⟩ := chain_scan x _ _ _ _ hS
      rw [hux] at hpos hfit hex
      have hp0 : p = 0 := by omega
      unfold scanS at hS
      simp only [scanF] at hS
      split at hS
      · rename_i hlt
        split at hS
        · rename_i he0
          have hend := tokKN_end he0
          generalize hr : scanF x x.size false (tokKN x (skipL false x.data.toList 0)).2 = R at hS
          cases R with
          | inl us =>
            simp only [Sum.inl.injEq, List.cons.injEq] at hS
            obtain ⟨hu, _⟩ := hS
            have hj : skipL false x.data.toList 0 = 0 := by
              have : u.pos = ((skipL false x.data.toList 0 : Nat) : Int) := by rw [← hu]; rfl
              rw [hp, hp0] at this
              omega
            rw [hj] at hu he0 hend
            have hk' : ((tokKN x 0).1 : Int) = k := by rw [← hk, ← hu]; rfl
            have hx' : x.extract 0 (tokKN x 0).2 = x := by
              have h9 : (tokAt x 0).text = x := by rw [hu]; exact hux
              exact h9
            have hsz := congrArg ByteArray.size hx'
            rw [ByteArray.size_extract, Nat.min_eq_left hend.2] at hsz
            exact ⟨hpos, h6, he0, hk', by omega⟩
          | inr y => simp at hS
        · simp at hS
      · simp at hS
  · rintro ⟨h0, h6, he, hk, hn⟩
    have hS := alone_scan h0 he hn
    have hT : scanToks x = [⟨(tokKN x 0).1, 0, x⟩] := by simp [scanToks, hS]
    have hE : scanErr x = 0 := by simp [scanErr, hS]
    simp [isAlone, h6, hT, hE, hk]

set_option maxHeartbeats 2000000 in
set_option maxRecDepth 100000 in
theorem isToken_al (k a : Int) (x : ByteArray) (al : Bool) (hal : Hid (al = isAlone ⟨k, a, x⟩)) (hx : x.size ≤ maxLen) (w : World) :
    Calls Try.prog 17 #[.int .i64 k, .string x] w fun e w' => e = .returned (.bool al) ∧ w' = w := by
  unfold maxLen at hx
  by_cases h0 : 0 < x.size
  · have be : ¬ x.toList = [] := by
      rw [ByteArray.toList_eq]
      intro h
      have := congrArg List.length h
      simp at this
      rw [this] at h0
      simp at h0
    have be' : (x.toList == []) = false := by simpa using be
    by_cases h6 : x.size ≤ 6000
    · have d6 : decide ((6000 : Int) < (x.size : Int)) = false := decide_eq_false (by omega)
      by_cases hk0 : k = 0
      · have bk : (k == 0) = true := beq_iff_eq.2 hk0
        have hv : al = false := by rw [hal.out]; rw [← Bool.not_eq_true, isAlone_iff]; rintro ⟨_, _, he, hk', hn'⟩; exact tokErr_kind he (by omega)
        have HV := hide hv
        clear hv hk0
        go_enter Try.func17, Try.ntmps17
        go_wp2_with fail
        go_ret
        exact ⟨by rw [HV.out]; rfl, rfl⟩
      have bk : (k == 0) = false := beq_eq_false_iff_ne.2 hk0
      have hkk3 := tokKN_kind (s := x) (j := 0)
      have ht := tokenAt_any x 0 h0 h6
      obtain ⟨kk, hkk⟩ : ∃ kk, kk = (tokKN x 0).1 := ⟨_, rfl⟩
      obtain ⟨n, hn⟩ : ∃ n, n = (tokKN x 0).2 := ⟨_, rfl⟩
      have htl : tokLen x 0 = n := by unfold tokLen; rw [hn]; rfl
      rw [← hkk, htl] at ht
      rw [← hkk] at hkk3
      have hk : tokKN x 0 = (kk, n) := by rw [hkk, hn]
      have hnb : n ≤ x.size := by rw [hn]; exact tokKN_le (Nat.zero_le _)
      have HT := hide ht
      have hq := getQ h0
      clear ht htl hkk hn
      by_cases e1 : (kk : Int) = k
      · by_cases e2 : n = x.size
        · have be2 : ((n : Int) == (x.size : Int)) = true := beq_iff_eq.2 (by omega)
          subst e1
          have be1 : ((kk : Int) == (kk : Int)) = true := by simp
          rcases (show kk = 0 ∨ kk = 1 ∨ kk = 2 ∨ kk = 3 by omega) with rfl | rfl | rfl | rfl
          · exact absurd rfl hk0
          · by_cases h12 : 12 < n
            · have hv : al = false := by rw [hal.out]; rw [← Bool.not_eq_true, isAlone_iff]; rintro ⟨_, _, he, _⟩; simp [tokErr, hk, h12] at he
              clear hk hq hk0
              go_enter Try.func17, Try.ntmps17
              have HV := hide hv
              clear hv
              go_wp2_with fail
              refine (HT.out _).mono ?_
              rintro e w' ⟨rfl, rfl⟩
              go_wp2_with fail
              go_ret
              exact ⟨by rw [HV.out]; first | rfl | (simp; omega) | simp, rfl⟩
            · have hv : al = true := hal.out.trans ((isAlone_iff _ _ _).2 ⟨h0, h6, by simp [tokErr, hk, h12], by rw [hk], by rw [hk]; exact e2⟩)
              clear hk hq hk0
              go_enter Try.func17, Try.ntmps17
              have HV := hide hv
              clear hv
              go_wp2_with fail
              refine (HT.out _).mono ?_
              rintro e w' ⟨rfl, rfl⟩
              go_wp2_with fail
              go_ret
              exact ⟨by rw [HV.out]; first | rfl | (simp; omega) | simp, rfl⟩
          · by_cases h7 : 7 < n
            · have hv : al = false := by rw [hal.out]; rw [← Bool.not_eq_true, isAlone_iff]; rintro ⟨_, _, he, _⟩; simp [tokErr, hk, h7] at he
              clear hk hq hk0
              go_enter Try.func17, Try.ntmps17
              have HV := hide hv
              clear hv
              go_wp2_with fail
              refine (HT.out _).mono ?_
              rintro e w' ⟨rfl, rfl⟩
              go_wp2_with fail
              go_ret
              exact ⟨by rw [HV.out]; first | rfl | (simp; omega) | simp, rfl⟩
            by_cases h1 : 1 < n
            · by_cases h48 : x[0].toNat = 48
              · have b48 : ((x[0].toNat : Int) == 48) = true := beq_iff_eq.2 (by omega)
                have h48' : x[0] = 48 := (byte_eq_iff _ _).2 h48
                have hv : al = false := by
                  rw [hal.out]
                  rw [← Bool.not_eq_true, isAlone_iff]
                  rintro ⟨_, _, he, _⟩
                  simp only [tokErr, hk, hq, h48'] at he
                  simp [h1, h7] at he
                clear h48 h48'
                clear hk hq hk0
                go_enter Try.func17, Try.ntmps17
                have HV := hide hv
                clear hv
                go_wp2_with fail
                refine (HT.out _).mono ?_
                rintro e w' ⟨rfl, rfl⟩
                go_wp2_with fail
                go_ret
                exact ⟨by rw [HV.out]; first | rfl | (simp; omega) | simp, rfl⟩
              · have b48 : ((x[0].toNat : Int) == 48) = false := beq_eq_false_iff_ne.2 (by omega)
                have h48' : ¬ x[0] = 48 := fun h => h48 (by rw [h]; rfl)
                have hv : al = true := hal.out.trans ((isAlone_iff _ _ _).2 ⟨h0, h6, by simp only [tokErr, hk, hq]; simp [h1, h7, h48'], by rw [hk], by rw [hk]; exact e2⟩)
                clear h48 h48'
                clear hk hq hk0
                go_enter Try.func17, Try.ntmps17
                have HV := hide hv
                clear hv
                go_wp2_with fail
                refine (HT.out _).mono ?_
                rintro e w' ⟨rfl, rfl⟩
                go_wp2_with fail
                go_ret
                exact ⟨by rw [HV.out]; first | rfl | (simp; omega) | simp, rfl⟩
            · have hv : al = true := hal.out.trans ((isAlone_iff _ _ _).2 ⟨h0, h6, by simp only [tokErr, hk]; simp [h1, h7], by rw [hk], by rw [hk]; exact e2⟩)
              clear hk hq hk0
              go_enter Try.func17, Try.ntmps17
              have HV := hide hv
              clear hv
              go_wp2_with fail
              refine (HT.out _).mono ?_
              rintro e w' ⟨rfl, rfl⟩
              go_wp2_with fail
              go_ret
              exact ⟨by rw [HV.out]; first | rfl | (simp; omega) | simp, rfl⟩
          · have hv : al = true := hal.out.trans ((isAlone_iff _ _ _).2 ⟨h0, h6, by simp [tokErr, hk], by rw [hk], by rw [hk]; exact e2⟩)
            clear hk hq hk0
            go_enter Try.func17, Try.ntmps17
            have HV := hide hv
            clear hv
            go_wp2_with fail
            refine (HT.out _).mono ?_
            rintro e w' ⟨rfl, rfl⟩
            go_wp2_with fail
            go_ret
            exact ⟨by rw [HV.out]; first | rfl | (simp; omega) | simp, rfl⟩
        · have be2 : ((n : Int) == (x.size : Int)) = false := beq_eq_false_iff_ne.2 (by omega)
          have be1 : ((kk : Int) == k) = true := beq_iff_eq.2 e1
          have hv : al = false := by rw [hal.out]; rw [← Bool.not_eq_true, isAlone_iff]; rintro ⟨_, _, he, hk', hn'⟩; rw [hk] at hn'; exact e2 hn'
          clear e1 e2
          clear hk hq hk0
          go_enter Try.func17, Try.ntmps17
          have HV := hide hv
          clear hv
          go_wp2_with fail
          refine (HT.out _).mono ?_
          rintro e w' ⟨rfl, rfl⟩
          go_wp2_with fail
          go_ret
          exact ⟨by rw [HV.out]; first | rfl | (simp; omega) | simp, rfl⟩
      · have be1 : ((kk : Int) == k) = false := beq_eq_false_iff_ne.2 e1
        have hv : al = false := by rw [hal.out]; rw [← Bool.not_eq_true, isAlone_iff]; rintro ⟨_, _, he, hk', hn'⟩; rw [hk] at hk'; exact e1 hk'
        clear e1
        clear hk hq hk0
        go_enter Try.func17, Try.ntmps17
        have HV := hide hv
        clear hv
        go_wp2_with fail
        refine (HT.out _).mono ?_
        rintro e w' ⟨rfl, rfl⟩
        go_wp2_with fail
        go_ret
        exact ⟨by rw [HV.out]; first | rfl | (simp; omega) | simp, rfl⟩
    · have d6 : decide ((6000 : Int) < (x.size : Int)) = true := decide_eq_true (by omega)
      have hv : al = false := by rw [hal.out]; rw [← Bool.not_eq_true, isAlone_iff]; rintro ⟨_, h, _⟩; exact h6 h
      have HV := hide hv
      clear hv
      go_enter Try.func17, Try.ntmps17
      go_wp2_with fail
      go_ret
      exact ⟨by rw [HV.out]; rfl, rfl⟩
  · have hxe : x = ⟨#[]⟩ := by
      apply ByteArray.ext
      exact Array.eq_empty_of_size_eq_zero (by show x.size = 0; omega)
    have hv : al = false := by rw [hal.out]; rw [← Bool.not_eq_true, isAlone_iff]; rintro ⟨h, _⟩; exact h0 h
    have HV := hide hv
    have be : x.toList = [] := by rw [hxe, ByteArray.toList_eq]
    clear hv hxe
    go_enter Try.func17, Try.ntmps17
    go_wp2_with fail
    go_ret
    exact ⟨by rw [HV.out]; rfl, rfl⟩

theorem isToken_any (k a : Int) (x : ByteArray) (hx : x.size ≤ maxLen) (w : World) :
    Calls Try.prog 17 #[.int .i64 k, .string x] w fun e w' => e = .returned (.bool (isAlone ⟨k, a, x⟩)) ∧ w' = w :=
  isToken_al k a x _ rfl hx w
end Go.Proofs.Ytleaaflcnpmfdaa

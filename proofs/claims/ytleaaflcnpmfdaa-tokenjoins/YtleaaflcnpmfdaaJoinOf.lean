/- The document's own words on joining: veilworkref.JoinOf answers what Join answers. -/
import Derived.Test.YtleaaflcnpmfdaaIsToken
import Derived.Test.YtleaaflcnpmfdaaJoin
namespace Go.Proofs.Ytleaaflcnpmfdaa
open Go.RowKit
set_option linter.unusedVariables false

theorem ba_append (l : List UInt8) (x : ByteArray) : (ByteArray.mk l.toArray) ++ x = ⟨(l ++ x.data.toList).toArray⟩ := by
  apply ByteArray.ext
  simp [ByteArray.data_append]

set_option maxHeartbeats 2000000 in
set_option maxRecDepth 100000 in
theorem joinOf_any (v : Value) (ts : List Tok) (w : World) (hv : IsToks w v ts) (hn : ts.length * 32 ≤ 140737488355328) (hx : ∀ t ∈ ts, t.text.size ≤ maxLen) :
    Calls Try.prog 12 #[v] w fun e w' => e = .returned (.tuple #[.string (joinStr ts), .int .i64 (joinErr ts)]) ∧ ∃ n, w' = w.drewN n := by
  obtain ⟨ao, cap, rfl, hcc⟩ := hv
  go_enter Try.func12, Try.ntmps12
  go_wp2_with fail
  go_loopw [4, 5, 6] (fun l m i wr => ∃ (k n : Nat) (x : ByteArray), k ≤ ts.length ∧ i = .int .i64 k ∧ m = .int .i64 ((sizes (ts.take k) : Int) - 1) ∧ l = .string x ∧ x.size ≤ 6001 ∧ Hid (sizes (ts.take k) ≤ 6001 → x = ⟨(glueL (ts.take k)).toArray⟩) ∧ (ts.take k).all isAlone = true ∧ wr = w.drewN n) (fun _ _ i _ => ts.length - (intOf i).toNat)
  case atStart => exact ⟨0, 0, ⟨#[]⟩, Nat.zero_le _, rfl, rfl, rfl, by decide, fun _ => rfl, rfl, rfl⟩
  case round =>
    obtain ⟨k, n, x, hk, rfl, rfl, rfl, hxs, HX, hall, rfl⟩ := hrel
    have hsb := sizes_bound _ hall
    have hsb' : sizes (ts.take k) ≤ 6001 * k := by rw [List.length_take] at hsb; exact Nat.le_trans hsb (Nat.mul_le_mul_left _ (Nat.min_le_left _ _))
    clear hsb
    by_cases hkl : k < ts.length
    · obtain ⟨b, off, rfl, hcl⟩ := hcc (by rintro rfl; simp at hkl)
      obtain ⟨q0, q1, q2⟩ := cellsAt hcl hkl
      have htx0 := hx _ (List.getElem_mem hkl)
      have htk : ts.take (k + 1) = ts.take k ++ [ts[k]] := List.take_succ_eq_append_getElem hkl
      have hal := isToken_any ts[k].kind ts[k].pos ts[k].text htx0
      have hex : ts[k] = ⟨ts[k].kind, ts[k].pos, ts[k].text⟩ := rfl
      obtain ⟨al, halv⟩ : ∃ al, al = isAlone ts[k] := ⟨_, rfl⟩
      have hsz : sizes (ts.take (k + 1)) = sizes (ts.take k) + (ts[k].text.size + 1) := by rw [htk, sizes_snoc]
      have hgl : glueL (ts.take (k + 1)) = if ts.take k = [] then ts[k].text.data.toList else glueL (ts.take k) ++ 32 :: ts[k].text.data.toList := by rw [htk, glueL_snoc]
      have hal2 : (ts.take (k + 1)).all isAlone = al := by rw [htk, List.all_append, hall, halv]; simp
      have hae : al = true → ts[k].text.size ≤ 6000 := fun h => isAlone_size (by rw [← halv]; exact h)
      have hbad : al = false → joinErr ts = 1 := fun h => by
        unfold joinErr
        rw [if_neg]
        intro hh
        have := List.all_eq_true.1 hh ts[k] (List.getElem_mem hkl)
        rw [← halv, h] at this
        cases this
      have hnil : ts.take k = [] ↔ k = 0 := by
        rw [List.take_eq_nil_iff]
        constructor
        · rintro (h | h)
          · exact h
          · simp [h] at hkl
        · exact Or.inl
      rw [← hex, ← halv] at hal
      obtain ⟨kk, hkk⟩ : ∃ x, x = ts[k].kind := ⟨_, rfl⟩
      obtain ⟨tx, htx⟩ : ∃ x, x = ts[k].text := ⟨_, rfl⟩
      rw [← hkk] at q0 hal
      rw [← htx] at q2 hal hsz hae htx0 hgl
      have HAL := hide hal
      have HSZ := hide hsz
      have HA2 := hide hal2
      have HB := hide hbad
      have HGL := hide hgl
      have HNIL := hide hnil
      clear hkk htx hal hsz hal2 hbad halv hex htk hcl hcc hx q1 hgl hnil
      cases al with
      | true =>
        have h6 := hae rfl
        clear hae
        by_cases hle : sizes (ts.take k) + tx.size ≤ 6000
        · by_cases h0 : k = 0
          · have hp : ¬ (0 : Int) < (k : Int) := by omega
            have hfin : (⟨(glueL (ts.take (k + 1))).toArray⟩ : ByteArray) = x ++ tx := by
              rw [HX.out (by omega), ba_append, HGL.out, if_pos (HNIL.out.2 h0), HNIL.out.2 h0]
              rfl
            have HF := hide hfin
            clear hfin h0
            go_wp2_with fail
            go_quiet ((go_at_call 17; exact (HAL.out _).mono (fun _ _ h => ⟨h.1, _, h.2⟩)))
            go_wp2
            refine ⟨⟨k + 1, _, x ++ tx, by omega, by go_num, by rw [HSZ.out]; go_num, rfl, ?_, fun _ => HF.out.symm, HA2.out, rfl⟩, by simp [intOf]; omega⟩
            rw [← HF.out]
            have hgl := glueL_length (ts.take (k + 1))
            rw [HSZ.out] at hgl
            show (glueL (ts.take (k + 1))).toArray.size ≤ 6001
            simp only [List.size_toArray]
            rcases hgl with h | h
            · omega
            · rw [h]; simp [glueL]
          · have hp : (0 : Int) < (k : Int) := by omega
            have hfin : (⟨(glueL (ts.take (k + 1))).toArray⟩ : ByteArray) = x ++ ⟨#[32]⟩ ++ tx := by
              rw [HX.out (by omega), ba_append, ba_append, HGL.out, if_neg (fun h => h0 (HNIL.out.1 h))]
              simp
            have HF := hide hfin
            clear hfin h0
            go_wp2_with fail
            go_quiet ((go_at_call 17; exact (HAL.out _).mono (fun _ _ h => ⟨h.1, _, h.2⟩)))
            go_wp2
            refine ⟨⟨k + 1, _, x ++ ⟨#[32]⟩ ++ tx, by omega, by go_num, by rw [HSZ.out]; go_num, rfl, ?_, fun _ => HF.out.symm, HA2.out, rfl⟩, by simp [intOf]; omega⟩
            rw [← HF.out]
            have hgl := glueL_length (ts.take (k + 1))
            rw [HSZ.out] at hgl
            show (glueL (ts.take (k + 1))).toArray.size ≤ 6001
            simp only [List.size_toArray]
            rcases hgl with h | h
            · omega
            · rw [h]; simp [glueL]
        · go_wp2_with fail
          go_quiet ((go_at_call 17; exact (HAL.out _).mono (fun _ _ h => ⟨h.1, _, h.2⟩)))
          go_wp2
          exact ⟨⟨k + 1, _, x, by omega, by go_num, by rw [HSZ.out]; go_num, rfl, hxs, fun h => absurd h (by rw [HSZ.out]; omega), HA2.out, rfl⟩, by simp [intOf]; omega⟩
      | false =>
        clear hae
        go_wp2_with fail
        go_quiet ((go_at_call 17; exact (HAL.out _).mono (fun _ _ h => ⟨h.1, _, h.2⟩)))
        go_wp2
        go_ret2
        have hj := HB.out (by first | rfl | trivial)
        exact ⟨by simp [joinStr, hj], _, by rw [World.drewN_drewN]⟩
    · have hke : k = ts.length := by omega
      have hz : sizes (ts.take k) = sizes ts := by rw [hke, List.take_length]
      have hg : glueL (ts.take k) = glueL ts := by rw [hke, List.take_length]
      have hal : ts.all isAlone = true := by rw [hke, List.take_length] at hall; exact hall
      rw [hz] at hsb' ⊢
      by_cases h6 : sizes ts ≤ 6001
      · have hj : joinErr ts = 0 := by simp [joinErr, hal, h6]
        have hjs : joinStr ts = x := by rw [HX.out (by rw [hz]; exact h6), hg]; simp [joinStr, hj]
        have HJ := hide hj
        have HJS := hide hjs
        clear hj hjs hcc hal hx hz hg hall
        go_wp2_with fail
        go_ret2
        exact ⟨by rw [HJ.out, HJS.out]; rfl, _, rfl⟩
      · have hj : joinErr ts = 2 := by simp [joinErr, hal, h6]
        have hjs : joinStr ts = ⟨#[]⟩ := by simp [joinStr, hj]
        have HJ := hide hj
        have HJS := hide hjs
        clear hj hjs hcc hal hx hz hg hall
        go_wp2_with fail
        go_ret2
        exact ⟨by rw [HJ.out, HJS.out]; rfl, _, rfl⟩
end Go.Proofs.Ytleaaflcnpmfdaa

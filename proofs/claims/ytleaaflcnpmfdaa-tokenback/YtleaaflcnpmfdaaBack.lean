/- veilworklaw.TokenBack answers true, whatever tokens and whatever text it is handed: what is joined is scanned as it was, and what is scanned is joined to what is scanned so. -/
import Derived.Test.YtleaaflcnpmfdaaBegun
import Derived.Test.YtleaaflcnpmfdaaBackF
import Derived.Test.YtleaaflcnpmfdaaSame
import Derived.Test.YtleaaflcnpmfdaaOpen
import Derived.ProofKit
import Derived.OpenShut
import Derived.ShutString
import Derived.ChangeOld
import Derived.SizedLaws
namespace Go.Proofs.Ytleaaflcnpmfdaa
open Go.RowKit
set_option linter.unusedVariables false

theorem joinErr_zero {ts : List Tok} (h : joinErr ts = 0) : ts.all isAlone = true ∧ sizes ts ≤ 6001 := by
  unfold joinErr at h
  split at h
  · rename_i ha
    split at h
    · rename_i hs; exact ⟨ha, hs⟩
    · cases h
  · cases h

theorem joinStr_size {ts : List Tok} (h : joinErr ts = 0) : (joinStr ts).size ≤ 6000 := by
  have hs := (joinErr_zero h).2
  have e : joinStr ts = ⟨(glueL ts).toArray⟩ := by simp [joinStr, h]
  rw [e]
  show (glueL ts).toArray.size ≤ 6000
  rw [List.size_toArray]
  rcases glueL_length ts with hl | hl
  · omega
  · rw [hl]; simp [glueL]

/-- what Scan answers of what was joined. -/
theorem scanned_back {ts us : List Tok} {p r : Nat} (h : joinErr ts = 0)
    (hif : if (joinStr ts).size ≤ 6000 then us = scanToks (joinStr ts) ∧ p = scanPos (joinStr ts) ∧ r = scanErr (joinStr ts) else us = [] ∧ p = 0 ∧ r = 2) :
    r = 0 ∧ us.map tkey = ts.map tkey := by
  rw [if_pos (joinStr_size h)] at hif
  obtain ⟨ha, hs⟩ := joinErr_zero h
  obtain ⟨vs, h1, h2⟩ := glue_scanned ha hs
  have e : joinStr ts = ⟨(glueL ts).toArray⟩ := by simp [joinStr, h]
  rw [← e] at h1
  have hT : scanToks (joinStr ts) = vs := by simp [scanToks, h1]
  have hE : scanErr (joinStr ts) = 0 := by simp [scanErr, h1]
  exact ⟨by rw [hif.2.2, hE], by rw [hif.1, hT, h2]⟩

theorem keys_same {ts us : List Tok} (h : us.map tkey = ts.map tkey) : ts.length = us.length ∧ ∀ i (h1 : i < ts.length) (h2 : i < us.length), ts[i].kind = us[i].kind ∧ ts[i].text = us[i].text ∧ (false = true → ts[i].pos = us[i].pos) := by
  have hl := congrArg List.length h
  simp only [List.length_map] at hl
  refine ⟨hl.symm, fun i h1 h2 => ?_⟩
  have he : (us.map tkey)[i]'(by simpa using h2) = (ts.map tkey)[i]'(by simpa using h1) := by simp only [h]
  simp only [List.getElem_map, tkey, Prod.mk.injEq] at he
  exact ⟨he.1.symm, he.2.symm, fun h => by cases h⟩

/-- what Scan answers of a text: its tokens are few, each alone, and none if it is wrong. -/
theorem scanned_facts {s : ByteArray} {ts : List Tok} {p r : Nat}
    (h : if s.size ≤ 6000 then ts = scanToks s ∧ p = scanPos s ∧ r = scanErr s else ts = [] ∧ p = 0 ∧ r = 2) : ts.length ≤ 6000 ∧ ts.all isAlone = true ∧ (¬ r = 0 → ts = []) := by
  by_cases hs : s.size ≤ 6000
  · rw [if_pos hs] at h
    obtain ⟨rfl, _, rfl⟩ := h
    by_cases he : scanErr s = 0
    · have h1 := scan_length s _ (scan_ok he)
      exact ⟨by omega, scanned_alone s hs _ _ _ _ (scan_ok he), fun h => absurd he h⟩
    · rw [scan_bad he]; exact ⟨by simp, rfl, fun _ => rfl⟩
  · rw [if_neg hs] at h
    obtain ⟨rfl, _, rfl⟩ := h
    exact ⟨by simp, rfl, fun _ => rfl⟩

theorem alone_max {ts : List Tok} (h : ts.all isAlone = true) : ∀ t ∈ ts, t.text.size ≤ maxLen := fun t ht => by
  have := isAlone_size (List.all_eq_true.1 h t ht)
  unfold maxLen
  omega

set_option maxHeartbeats 2000000 in
set_option maxRecDepth 100000 in
theorem back_walk (v : Value) (ts : List Tok) (s : ByteArray) (w : World) (hv : IsToks w v ts) (hn : ts.length * 32 ≤ 140737488355328) (hx : ∀ t ∈ ts, t.text.size ≤ maxLen) (hs : s.size ≤ maxLen) :
    Calls Try.prog 5 #[v, .string s] w fun e w' => e = .returned (.bool true) ∧ Below w.heap.size w w' := by
  go_enter Try.func5, Try.ntmps5
  go_wp2_with fail
  refine (begun_any _).mono ?_
  rintro e w0 ⟨rfl, hb0⟩
  have hv0 := isToks_over hv hb0
  have HJ := hide (Join_any v ts w0 hv0 hn hx)
  clear hv
  go_wp2_with fail
  refine (HJ.out).mono ?_
  rintro e w1 ⟨rfl, hb1⟩
  have hv1 := isToks_over hv0 hb1
  have hbel1 : Below w.heap.size w w1 := hb0.trans (hb1.mono hb0.size)
  clear HJ hv0 hb0 hb1
  by_cases hj : joinErr ts = 0
  · have bj : (joinErr ts == 0) = true := beq_iff_eq.2 hj
    have hm : (joinStr ts).size ≤ maxLen := by have := joinStr_size hj; unfold maxLen; omega
    have HJ := hide hj
    clear hj
    go_wp2_with fail
    refine (Scan_any (joinStr ts) hm _).mono ?_
    rintro e w2 ⟨v2, ms, p2, r2, rfl, hown2, hb2, hif2⟩
    obtain ⟨rfl, hk2⟩ := scanned_back HJ.out hif2
    obtain ⟨hl2, hs2⟩ := keys_same hk2
    have hbel2 : Below w.heap.size w w2 := hbel1.trans (hb2.mono hbel1.size)
    have HM := hide (same_true v v2 ts ms false w2 (isToks_over hv1 hb2) (isToks_owned hown2) (by omega) hl2 hs2)
    clear hown2 hb2 hif2 hk2 hl2 hs2 hbel1 hv1 hx hm
    go_wp2_with fail
    refine (HM.out).mono ?_
    rintro e wq ⟨rfl, n, rfl⟩
    have hbelW : Below w.heap.size w (w2.drewN n) := below_drewN hbel2 _
    clear hbel2 HM
    go_wp2_with fail
    refine (Scan_any s hs _).mono ?_
    rintro e w3 ⟨v3, us, p3, r3, rfl, hown3, hb3, hif3⟩
    obtain ⟨hl3, ha3, hz3⟩ := scanned_facts hif3
    have hv3 := isToks_owned hown3
    have hbel3 : Below w.heap.size w w3 := hbelW.trans (hb3.mono hbelW.size)
    clear hown3 hb3 hif3 hbelW
    by_cases hr3 : r3 = 0
    · have b3 : ((r3 : Int) != 0) = false := by rw [hr3]; rfl
      have HJ3 := hide (Join_any v3 us w3 hv3 (by omega) (alone_max ha3))
      clear hr3 hz3
      go_wp2_with fail
      refine (HJ3.out).mono ?_
      rintro e w4 ⟨rfl, hb4⟩
      have hv4 := isToks_over hv3 hb4
      have hbel4 : Below w.heap.size w w4 := hbel3.trans (hb4.mono hbel3.size)
      clear hv3 hbel3 hb4 HJ3
      by_cases hj4 : joinErr us = 0
      · have b4 : (joinErr us != 0) = false := by rw [hj4]; rfl
        have hm4 : (joinStr us).size ≤ maxLen := by have := joinStr_size hj4; unfold maxLen; omega
        have HJ4 := hide hj4
        clear hj4
        go_wp2_with fail
        refine (Scan_any (joinStr us) hm4 _).mono ?_
        rintro e w5 ⟨v5, vs, p5, r5, rfl, hown5, hb5, hif5⟩
        obtain ⟨rfl, hk5⟩ := scanned_back HJ4.out hif5
        obtain ⟨hl5, hs5⟩ := keys_same hk5
        have hbel5 : Below w.heap.size w w5 := hbel4.trans (hb5.mono hbel4.size)
        have HM5 := hide (same_true v3 v5 us vs false w5 (isToks_over hv4 hb5) (isToks_owned hown5) (by omega) hl5 hs5)
        clear hown5 hb5 hif5 hk5 hl5 hs5 hbel4 hv4
        go_wp2_with fail
        refine (HM5.out).mono ?_
        rintro e w6 ⟨rfl, n, rfl⟩
        go_wp2_with fail
        go_ret
        exact ⟨rfl, below_drewN hbel5 _⟩
      · have hj2 : joinErr us = 2 := by
          unfold joinErr at hj4 ⊢
          rw [if_pos ha3] at hj4 ⊢
          split at hj4
          · exact absurd rfl hj4
          · rename_i h6; rw [if_neg h6]
        have b4 : (joinErr us != 0) = true := by rw [hj2]; rfl
        have b5 : (joinErr us == 2) = true := by rw [hj2]; rfl
        clear hj4 hj2
        go_wp2_with fail
        go_ret
        exact ⟨rfl, hbel4⟩
    · have b3 : ((r3 : Int) != 0) = true := by rw [bne_iff_ne]; omega
      obtain rfl := hz3 hr3
      obtain ⟨ao, cap, rfl, _⟩ := hv3
      clear hr3 hz3
      go_wp2_with fail
      go_ret
      exact ⟨rfl, hbel3⟩
  · have bj : (joinErr ts == 0) = false := beq_eq_false_iff_ne.2 hj
    have hbelW := hbel1
    clear hj hbel1
    go_wp2_with fail
    refine (Scan_any s hs _).mono ?_
    rintro e w3 ⟨v3, us, p3, r3, rfl, hown3, hb3, hif3⟩
    obtain ⟨hl3, ha3, hz3⟩ := scanned_facts hif3
    have hv3 := isToks_owned hown3
    have hbel3 : Below w.heap.size w w3 := hbelW.trans (hb3.mono hbelW.size)
    clear hown3 hb3 hif3 hbelW
    by_cases hr3 : r3 = 0
    · have b3 : ((r3 : Int) != 0) = false := by rw [hr3]; rfl
      have HJ3 := hide (Join_any v3 us w3 hv3 (by omega) (alone_max ha3))
      clear hr3 hz3
      go_wp2_with fail
      refine (HJ3.out).mono ?_
      rintro e w4 ⟨rfl, hb4⟩
      have hv4 := isToks_over hv3 hb4
      have hbel4 : Below w.heap.size w w4 := hbel3.trans (hb4.mono hbel3.size)
      clear hv3 hbel3 hb4 HJ3
      by_cases hj4 : joinErr us = 0
      · have b4 : (joinErr us != 0) = false := by rw [hj4]; rfl
        have hm4 : (joinStr us).size ≤ maxLen := by have := joinStr_size hj4; unfold maxLen; omega
        have HJ4 := hide hj4
        clear hj4
        go_wp2_with fail
        refine (Scan_any (joinStr us) hm4 _).mono ?_
        rintro e w5 ⟨v5, vs, p5, r5, rfl, hown5, hb5, hif5⟩
        obtain ⟨rfl, hk5⟩ := scanned_back HJ4.out hif5
        obtain ⟨hl5, hs5⟩ := keys_same hk5
        have hbel5 : Below w.heap.size w w5 := hbel4.trans (hb5.mono hbel4.size)
        have HM5 := hide (same_true v3 v5 us vs false w5 (isToks_over hv4 hb5) (isToks_owned hown5) (by omega) hl5 hs5)
        clear hown5 hb5 hif5 hk5 hl5 hs5 hbel4 hv4
        go_wp2_with fail
        refine (HM5.out).mono ?_
        rintro e w6 ⟨rfl, n, rfl⟩
        go_wp2_with fail
        go_ret
        exact ⟨rfl, below_drewN hbel5 _⟩
      · have hj2 : joinErr us = 2 := by
          unfold joinErr at hj4 ⊢
          rw [if_pos ha3] at hj4 ⊢
          split at hj4
          · exact absurd rfl hj4
          · rename_i h6; rw [if_neg h6]
        have b4 : (joinErr us != 0) = true := by rw [hj2]; rfl
        have b5 : (joinErr us == 2) = true := by rw [hj2]; rfl
        clear hj4 hj2
        go_wp2_with fail
        go_ret
        exact ⟨rfl, hbel4⟩
    · have b3 : ((r3 : Int) != 0) = true := by rw [bne_iff_ne]; omega
      obtain rfl := hz3 hr3
      obtain ⟨ao, cap, rfl, _⟩ := hv3
      clear hr3 hz3
      go_wp2_with fail
      go_ret
      exact ⟨rfl, hbel3⟩

section
open Go.ChangeShapes Go.WideShapes Go.ChangeAt
open Go.ChangeMaps (open_string shut_string)

theorem backLaidOut : laidOutB Try.prog = true := by kernel_rfl

set_option maxRecDepth 100000 in
theorem back_lifted (os : Os) (started : os.Started) (H : Type) (enc : TypeId × Value → H) :
    ReturnsInHanded {} Try.checked os 5 .any (Rows.tokenBackSpec.pre6 enc Try.prog Try.f5 Rows.tokenBackRow.domain false) (Rows.tokenBackSpec.post enc Try.prog Try.f5 false true false false) := by
  refine returnsInHanded_of_change_sized (C := Try.checked) Try.own started (by kernel_rfl) Try.func5
    (ChangeSpec.witness6 (enc := enc) (C := Try.checked) false ⟨#[], #[.slice none 0 0, .string ByteArray.empty], []⟩ 8 (by kernel_rfl) (by kernel_rfl) (by kernel_rfl) (by kernel_rfl)) ?_
  intro W base args ds gs before hval0 hW hcnd hsz0 _
  have hsz : (DataW.weightsEach Try.prog (Try.f5.params.toList ++ Rows.tokenBackSpec.plain.varTypes Try.prog) (ds ++ gs)).all (· ≤ reachBytes) = true := hsz0
  clear hsz0
  have hval : ∀ (j : Nat) t v, Try.f5.params[j]? = some t → args[j]? = some v → Value.okWide Try.prog W .any base t v := hval0
  have hW' := hW
  obtain ⟨p, q, hA0, hV, rfl, hfz, hnd⟩ := hW
  have hA : DataW.TrodAll enc Try.prog W 0 (fun _ => true) true Try.f5.params.toList args.toList ds p := hA0
  rw [Try.params5] at hA hval hsz
  obtain ⟨v0, vs0, d0, ds0, p0, q0, hargs, rfl, rfl, h0, r0⟩ := trodAll_cons hA
  obtain ⟨v1, vs1, d1, ds1, p1, q1, rfl, rfl, rfl, h1, r1⟩ := trodAll_cons r0
  obtain ⟨rfl, rfl, rfl⟩ := trodAll_nil r1
  obtain rfl : args = #[v0, v1] := by cases args; simp_all
  obtain ⟨rfl, rfl⟩ := trodVars_none hV
  obtain ⟨a0, len0, cap0, rfl⟩ := okWide_slice Try.underlying22 (hval 0 22 v0 rfl rfl)
  have k0 := h0
  have lt0 : ∀ x ∈ p0, x.block < W.heap.size := by obtain ⟨m, hm⟩ := k0; exact DataW.trod_lt m _ _ _ hm
  obtain ⟨fuel, hf⟩ := h0
  obtain ⟨ts, hlen, hts, hx, hd⟩ := open_toks (by simpa [Value.cells] using hf)
  have hn : ts.length * 32 ≤ 140737488355328 := by
    rcases hd with ⟨_, rfl⟩ | ⟨el, sp, he, hl⟩
    · simp
    · simp only at he
      have := sized_slice hsz (j := 0) (t := 22) (e := 34) rfl (by rw [he]; rfl) Try.underlying22
      rw [Try.bytes34] at this
      have h2 : reachBytes = 140737488351232 := rfl
      rw [h2] at this
      omega
  obtain ⟨a1, rfl, rfl, rfl, w1⟩ := open_string Try.underlying9 (hval 1 9 v1 rfl rfl) h1
  clear hA0 hval0 hsz
  refine (back_walk _ ts a1 W hts hn hx w1).mono fun e W' ⟨he, bel⟩ => ?_
  subst he
  exact ⟨_, rfl, _, _, _, [], _, [], hW', trodAll_mk1 (shut_bool Try.underlying4 _), (trodAll_cons_mk (Below.trod backLaidOut (by kernel_rfl) (of_decide_eq_true (by kernel_rfl)) k0 bel lt0) (trodAll_cons_mk (shut_string Try.underlying9 w1) trodAll_mk0)), rfl, bel.frame _, fun h => by cases h⟩

theorem tokenBack_holds : Rows.TokenBackSaid :=
  OpenClaim.holds_of_wide 5 Try.f5 rfl rfl rfl rfl rfl rfl rfl ⟨rfl, rfl, rfl, rfl, rfl⟩ rfl rfl rfl rfl rfl (by kernel_rfl) Try.func5 (by kernel_rfl)
    (of_decide_eq_true (by kernel_rfl)) (by unfold Func.isWrapper; first | (rw [if_pos (by decide +kernel)]; kernel_rfl) | (rw [if_neg (by decide +kernel)]; exact ⟨rfl, rfl⟩))
    (fun os started H enc _ => back_lifted os started H enc)
end
#print axioms tokenBack_holds
end Go.Proofs.Ytleaaflcnpmfdaa

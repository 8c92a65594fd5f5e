/- veilworklaw.TokenPlaces answers true, whatever text it is handed: each token that Scan answers stands where it is told, one behind the other. -/
import Derived.Test.YtleaaflcnpmfdaaBegun
import Derived.Test.YtleaaflcnpmfdaaChain
import Derived.ProofKit
import Derived.OpenShut
import Derived.ShutString
import Derived.ChangeOld
namespace Go.Proofs.Ytleaaflcnpmfdaa
open Go.RowKit
set_option linter.unusedVariables false

set_option maxHeartbeats 1000000 in
theorem places_walk (s : ByteArray) (hs : s.size ≤ maxLen) (w : World) :
    Calls Try.prog 6 #[.string s] w fun e w' => e = .returned (.bool true) ∧ Below w.heap.size w w' := by
  go_enter Try.func6, Try.ntmps6
  go_wp2_with fail
  refine (Scan_any s hs _).mono ?_
  rintro e w1 ⟨v, ts, p, r, rfl, hown, hb, hif⟩
  go_wp2_with fail
  refine (begun_any _).mono ?_
  rintro e w2 ⟨rfl, hb2⟩
  have hv := isToks_over (isToks_owned hown) hb2
  have hbel : Below w.heap.size w w2 := hb.trans (hb2.mono hb.size)
  clear hown hb hb2
  by_cases hr : r = 0
  · have hsz : s.size ≤ 6000 := by
      rcases Nat.lt_or_ge 6000 s.size with h | h
      · rw [if_neg (by omega)] at hif; omega
      · exact h
    rw [if_pos hsz] at hif
    obtain ⟨hts, hp, hre⟩ := hif
    have hch : Chain s 0 ts := by rw [hts]; exact chain_scan s _ _ _ _ (scan_ok (by rw [← hre]; exact hr))
    subst hr
    clear hts hp hre
    obtain ⟨ao, cap, rfl, hcc⟩ := hv
    have hlen : ts.length ≤ 6000 := by have := chain_len s ts 0 hch (Nat.zero_le _); omega
    go_wp2_with fail
    go_loopw [6, 7] (fun a i wr => ∃ k q : Nat, k ≤ ts.length ∧ i = .int .i64 k ∧ q ≤ s.size ∧ a = .int .i64 q ∧ Chain s q (ts.drop k) ∧ ∃ n, wr = w2.drewN n) (fun _ i _ => ts.length - (intOf i).toNat)
    case atStart => exact ⟨0, 0, Nat.zero_le _, rfl, Nat.zero_le _, rfl, hch, 0, rfl⟩
    case round =>
      obtain ⟨k, q, hk, rfl, hq, rfl, hch, n, rfl⟩ := hrel
      by_cases hkl : k < ts.length
      · obtain ⟨b, off, rfl, hcl⟩ := hcc (by rintro rfl; simp at hkl)
        obtain ⟨q0, q1, q2⟩ := cellsAt hcl hkl
        rw [List.drop_eq_getElem_cons hkl] at hch
        obtain ⟨p1, hp1, hq1, hpos, hfit, htx, hrest⟩ := hch
        rw [hp1] at q1
        obtain ⟨tx, htxe⟩ : ∃ x, x = ts[k].text := ⟨_, rfl⟩
        rw [← htxe] at q2 hpos hfit htx hrest
        have HR := hide hrest
        have HT := hide htx
        have hnz : ((tx.size : Int) == 0) = false := beq_eq_false_iff_ne.2 (by omega)
        have heq : ((s.extract p1 (p1 + tx.size)).toList == tx.toList) = true := by rw [← htx]; simp
        have d1 : decide (p1 < q) = false := decide_eq_false (by omega)
        have d2 : decide (s.size < p1 + tx.size) = false := decide_eq_false (by omega)
        have d3 : decide ((s.size : Int) < (p1 : Int) + (tx.size : Int)) = false := decide_eq_false (by omega)
        clear hrest htx hp1 htxe q0 hcl hcc
        go_wp2_with fail
        go_quiet ((fail))
        go_wp2
        exact ⟨⟨k + 1, p1 + tx.size, by omega, by go_num, by omega, by go_num, HR.out, _, rfl⟩, by simp [intOf]; omega⟩
      · go_wp2_with fail
        go_ret
        exact ⟨rfl, below_drewN hbel _⟩
  · have b0 : ((r : Int) != 0) = true := by simp; omega
    have hnil : ts = [] := by
      by_cases hsz : s.size ≤ 6000
      · rw [if_pos hsz] at hif
        rw [hif.1]
        exact scan_bad (by rw [← hif.2.2]; exact hr)
      · rw [if_neg hsz] at hif; exact hif.1
    subst hnil
    obtain ⟨ao, cap, rfl, hcc⟩ := hv
    clear hif
    go_wp2_with fail
    go_ret
    exact ⟨rfl, hbel⟩

section
open Go.ChangeShapes Go.WideShapes Go.ChangeAt
open Go.ChangeMaps (open_string shut_string)

set_option maxRecDepth 100000 in
theorem places_lifted (os : Os) (started : os.Started) (H : Type) (enc : TypeId × Value → H) :
    ReturnsInHanded {} Try.checked os 6 .any (Rows.tokenPlacesSpec.pre6 enc Try.prog Try.f6 Rows.tokenPlacesRow.domain false) (Rows.tokenPlacesSpec.post enc Try.prog Try.f6 false true false false) := by
  refine returnsInHanded_of_change (C := Try.checked) Try.own started (by kernel_rfl) Try.func6
    (ChangeSpec.witness6 (enc := enc) (C := Try.checked) false ⟨#[], #[.string ByteArray.empty], []⟩ 8 (by kernel_rfl) (by kernel_rfl) (by kernel_rfl) (by kernel_rfl)) ?_
  intro W base args ds gs before hval0 hW hcnd _
  have hval : ∀ (j : Nat) t v, Try.f6.params[j]? = some t → args[j]? = some v → Value.okWide Try.prog W .any base t v := hval0
  have hW' := hW
  obtain ⟨p, q, hA0, hV, rfl, hfz, hnd⟩ := hW
  have hA : DataW.TrodAll enc Try.prog W 0 (fun _ => true) true Try.f6.params.toList args.toList ds p := hA0
  rw [Try.params6] at hA hval
  obtain ⟨v0, vs0, d0, ds0, p0, q0, hargs, rfl, rfl, h0, r0⟩ := trodAll_cons hA
  obtain ⟨rfl, rfl, rfl⟩ := trodAll_nil r0
  obtain rfl : args = #[v0] := by cases args; simp_all
  obtain ⟨rfl, rfl⟩ := trodVars_none hV
  obtain ⟨a0, rfl, rfl, rfl, w0⟩ := open_string Try.underlying9 (hval 0 9 v0 rfl rfl) h0
  clear hA0 hval0
  simp only [List.append_nil] at hW'
  refine (places_walk a0 w0 W).mono fun e W' ⟨he, bel⟩ => ?_
  subst he
  exact ⟨_, rfl, _, _, _, [], _, [], hW', trodAll_mk1 (shut_bool Try.underlying4 _), (trodAll_cons_mk (shut_string Try.underlying9 w0) trodAll_mk0), rfl, bel.frame _, fun h => by cases h⟩

theorem tokenPlaces_holds : Rows.TokenPlacesSaid :=
  OpenClaim.holds_of_wide 6 Try.f6 rfl rfl rfl rfl rfl rfl rfl ⟨rfl, rfl, rfl, rfl, rfl⟩ rfl rfl rfl rfl rfl (by kernel_rfl) Try.func6 (by kernel_rfl)
    (of_decide_eq_true (by kernel_rfl)) (by unfold Func.isWrapper; first | (rw [if_pos (by decide +kernel)]; kernel_rfl) | (rw [if_neg (by decide +kernel)]; exact ⟨rfl, rfl⟩))
    (fun os started H enc _ => places_lifted os started H enc)
end
#print axioms tokenPlaces_holds
end Go.Proofs.Ytleaaflcnpmfdaa

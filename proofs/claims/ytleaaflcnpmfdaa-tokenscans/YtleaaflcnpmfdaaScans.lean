/- veilworklaw.TokenScans answers true, whatever text it is handed: Scan answers just what the document says, and the same place. -/
import Derived.Test.YtleaaflcnpmfdaaBegun
import Derived.Test.YtleaaflcnpmfdaaChain
import Derived.Test.YtleaaflcnpmfdaaScanOf
import Derived.Test.YtleaaflcnpmfdaaSame
import Derived.ProofKit
import Derived.OpenShut
import Derived.ShutString
import Derived.ChangeOld
namespace Go.Proofs.Ytleaaflcnpmfdaa
open Go.RowKit
set_option linter.unusedVariables false

theorem scanned_same {s : ByteArray} {ts us : List Tok} {p q r m : Nat}
    (h1 : if s.size ≤ 6000 then ts = scanToks s ∧ p = scanPos s ∧ r = scanErr s else ts = [] ∧ p = 0 ∧ r = 2)
    (h2 : if s.size ≤ 6000 then us = scanToks s ∧ q = scanPos s ∧ m = scanErr s else us = [] ∧ q = 0 ∧ m = 2) : ts = us ∧ p = q ∧ r = m := by
  by_cases h : s.size ≤ 6000
  · rw [if_pos h] at h1 h2
    exact ⟨h1.1.trans h2.1.symm, h1.2.1.trans h2.2.1.symm, h1.2.2.trans h2.2.2.symm⟩
  · rw [if_neg h] at h1 h2
    exact ⟨h1.1.trans h2.1.symm, h1.2.1.trans h2.2.1.symm, h1.2.2.trans h2.2.2.symm⟩

theorem owned_length {w : World} {B : Nat} {v : Value} {ts : List Tok} {s : ByteArray} {p r : Nat}
    (h : if s.size ≤ 6000 then ts = scanToks s ∧ p = scanPos s ∧ r = scanErr s else ts = [] ∧ p = 0 ∧ r = 2) : ts.length ≤ 6000 := by
  by_cases hs : s.size ≤ 6000
  · rw [if_pos hs] at h
    rw [h.1]
    by_cases he : scanErr s = 0
    · have := scan_length s _ (scan_ok he)
      omega
    · rw [scan_bad he]; simp
  · rw [if_neg hs] at h
    rw [h.1]; simp

set_option maxHeartbeats 1000000 in
theorem scans_walk (s : ByteArray) (hs : s.size ≤ maxLen) (w : World) :
    Calls Try.prog 3 #[.string s] w fun e w' => e = .returned (.bool true) ∧ Below w.heap.size w w' := by
  go_enter Try.func3, Try.ntmps3
  go_wp2_with fail
  refine (Scan_any s hs _).mono ?_
  rintro e w1 ⟨v, ts, p, r, rfl, hown, hb, hif⟩
  have hv := isToks_owned hown
  clear hown
  go_wp2_with fail
  refine (scanOf_any s hs _).mono ?_
  rintro e w2 ⟨v2, us, q, m, rfl, hown2, hb2, hif2⟩
  obtain ⟨rfl, rfl, rfl⟩ := scanned_same hif hif2
  have hlen := owned_length (w := w) (B := 0) (v := v) hif
  have hv1 := isToks_over hv hb2
  have hv2 := isToks_owned hown2
  have hbel2 : Below w.heap.size w w2 := hb.trans (hb2.mono hb.size)
  clear hown2 hif hif2 hb hb2 hv
  go_wp2_with fail
  refine (begun_any _).mono ?_
  rintro e w3 ⟨rfl, hb3⟩
  have hv1' := isToks_over hv1 hb3
  have hv2' := isToks_over hv2 hb3
  have hbel3 : Below w.heap.size w w3 := hbel2.trans (hb3.mono hbel2.size)
  clear hb3 hv1 hv2 hbel2
  have b1 : ((r : Int) == (r : Int)) = true := by simp
  have b2 : ((p : Int) == (p : Int)) = true := by simp
  have HM := hide (same_true v v2 ts ts true w3 hv1' hv2' (by omega) rfl (fun i _ _ => ⟨rfl, rfl, fun _ => rfl⟩))
  clear hv1' hv2'
  go_wp2_with fail
  refine (HM.out).mono ?_
  rintro e w4 ⟨rfl, n, rfl⟩
  go_wp2_with fail
  go_ret
  exact ⟨rfl, below_drewN hbel3 _⟩
section
open Go.ChangeShapes Go.WideShapes Go.ChangeAt
open Go.ChangeMaps (open_string shut_string)

set_option maxRecDepth 100000 in
theorem scans_lifted (os : Os) (started : os.Started) (H : Type) (enc : TypeId × Value → H) :
    ReturnsInHanded {} Try.checked os 3 .any (Rows.tokenScansSpec.pre6 enc Try.prog Try.f3 Rows.tokenScansRow.domain false) (Rows.tokenScansSpec.post enc Try.prog Try.f3 false true false false) := by
  refine returnsInHanded_of_change (C := Try.checked) Try.own started (by kernel_rfl) Try.func3
    (ChangeSpec.witness6 (enc := enc) (C := Try.checked) false ⟨#[], #[.string ByteArray.empty], []⟩ 8 (by kernel_rfl) (by kernel_rfl) (by kernel_rfl) (by kernel_rfl)) ?_
  intro W base args ds gs before hval0 hW hcnd _
  have hval : ∀ (j : Nat) t v, Try.f3.params[j]? = some t → args[j]? = some v → Value.okWide Try.prog W .any base t v := hval0
  have hW' := hW
  obtain ⟨p, q, hA0, hV, rfl, hfz, hnd⟩ := hW
  have hA : DataW.TrodAll enc Try.prog W 0 (fun _ => true) true Try.f3.params.toList args.toList ds p := hA0
  rw [Try.params3] at hA hval
  obtain ⟨v0, vs0, d0, ds0, p0, q0, hargs, rfl, rfl, h0, r0⟩ := trodAll_cons hA
  obtain ⟨rfl, rfl, rfl⟩ := trodAll_nil r0
  obtain rfl : args = #[v0] := by cases args; simp_all
  obtain ⟨rfl, rfl⟩ := trodVars_none hV
  obtain ⟨a0, rfl, rfl, rfl, w0⟩ := open_string Try.underlying9 (hval 0 9 v0 rfl rfl) h0
  clear hA0 hval0
  simp only [List.append_nil] at hW'
  refine (scans_walk a0 w0 W).mono fun e W' ⟨he, bel⟩ => ?_
  subst he
  exact ⟨_, rfl, _, _, _, [], _, [], hW', trodAll_mk1 (shut_bool Try.underlying4 _), (trodAll_cons_mk (shut_string Try.underlying9 w0) trodAll_mk0), rfl, bel.frame _, fun h => by cases h⟩

theorem tokenScans_holds : Rows.TokenScansSaid :=
  OpenClaim.holds_of_wide 3 Try.f3 rfl rfl rfl rfl rfl rfl rfl ⟨rfl, rfl, rfl, rfl, rfl⟩ rfl rfl rfl rfl rfl (by kernel_rfl) Try.func3 (by kernel_rfl)
    (of_decide_eq_true (by kernel_rfl)) (by unfold Func.isWrapper; first | (rw [if_pos (by decide +kernel)]; kernel_rfl) | (rw [if_neg (by decide +kernel)]; exact ⟨rfl, rfl⟩))
    (fun os started H enc _ => scans_lifted os started H enc)
end
#print axioms tokenScans_holds
end Go.Proofs.Ytleaaflcnpmfdaa

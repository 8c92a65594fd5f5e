/- veilworklaw.TokenJoins answers true, whatever tokens it is handed: Join answers just what the document says, errors too. -/
import Derived.Test.YtleaaflcnpmfdaaBegun
import Derived.Test.YtleaaflcnpmfdaaJoinOf
import Derived.Test.YtleaaflcnpmfdaaOpen
import Derived.ProofKit
import Derived.OpenShut
import Derived.ShutString
import Derived.ChangeOld
import Derived.SizedLaws
namespace Go.Proofs.Ytleaaflcnpmfdaa
open Go.RowKit
set_option linter.unusedVariables false

set_option maxHeartbeats 1000000 in
theorem joins_walk (v : Value) (ts : List Tok) (w : World) (hv : IsToks w v ts) (hn : ts.length * 32 ≤ 140737488355328) (hx : ∀ t ∈ ts, t.text.size ≤ maxLen) :
    Calls Try.prog 4 #[v] w fun e w' => e = .returned (.bool true) ∧ Below w.heap.size w w' := by
  have HJ := hide (Join_any v ts w hv hn hx)
  have b1 : (joinErr ts == joinErr ts) = true := by simp
  have b2 : ((joinStr ts).toList == (joinStr ts).toList) = true := by simp
  go_enter Try.func4, Try.ntmps4
  go_wp2_with fail
  refine (HJ.out).mono ?_
  rintro e w1 ⟨rfl, hb1⟩
  have HO := hide (joinOf_any v ts w1 (isToks_over hv hb1) hn hx)
  go_wp2_with fail
  refine (HO.out).mono ?_
  rintro e w2 ⟨rfl, n, rfl⟩
  have hbel : Below w.heap.size w (w1.drewN n) := below_drewN hb1 _
  clear HJ HO hb1
  go_wp2_with fail
  refine (begun_any _).mono ?_
  rintro e w3 ⟨rfl, hb3⟩
  have hbel3 : Below w.heap.size w w3 := hbel.trans (hb3.mono hbel.size)
  go_wp2_with fail
  go_ret
  exact ⟨rfl, hbel3⟩

section
open Go.ChangeShapes Go.WideShapes Go.ChangeAt

theorem Try.laidOut : laidOutB Try.prog = true := by kernel_rfl

set_option maxRecDepth 100000 in
theorem joins_lifted (os : Os) (started : os.Started) (H : Type) (enc : TypeId × Value → H) :
    ReturnsInHanded {} Try.checked os 4 .any (Rows.tokenJoinsSpec.pre6 enc Try.prog Try.f4 Rows.tokenJoinsRow.domain false) (Rows.tokenJoinsSpec.post enc Try.prog Try.f4 false true false false) := by
  refine returnsInHanded_of_change_sized (C := Try.checked) Try.own started (by kernel_rfl) Try.func4
    (ChangeSpec.witness6 (enc := enc) (C := Try.checked) false ⟨#[], #[.slice none 0 0], []⟩ 8 (by kernel_rfl) (by kernel_rfl) (by kernel_rfl) (by kernel_rfl)) ?_
  intro W base args ds gs before hval0 hW hcnd hsz0 _
  have hsz : (DataW.weightsEach Try.prog (Try.f4.params.toList ++ Rows.tokenJoinsSpec.plain.varTypes Try.prog) (ds ++ gs)).all (· ≤ reachBytes) = true := hsz0
  clear hsz0
  have hval : ∀ (j : Nat) t v, Try.f4.params[j]? = some t → args[j]? = some v → Value.okWide Try.prog W .any base t v := hval0
  have hW' := hW
  obtain ⟨p, q, hA0, hV, rfl, hfz, hnd⟩ := hW
  have hA : DataW.TrodAll enc Try.prog W 0 (fun _ => true) true Try.f4.params.toList args.toList ds p := hA0
  rw [Try.params4] at hA hval hsz
  obtain ⟨v0, vs0, d0, ds0, p0, q0, hargs, rfl, rfl, h0, r0⟩ := trodAll_cons hA
  obtain ⟨rfl, rfl, rfl⟩ := trodAll_nil r0
  obtain rfl : args = #[v0] := by cases args; simp_all
  obtain ⟨rfl, rfl⟩ := trodVars_none hV
  obtain ⟨a0, len0, cap0, rfl⟩ := okWide_slice Try.underlying22 (hval 0 22 v0 rfl rfl)
  have k0 := h0
  have lt0 : ∀ x ∈ p0, x.block < W.heap.size := by obtain ⟨m, hm⟩ := k0; exact DataW.trod_lt m _ _ _ hm
  obtain ⟨fuel, hf⟩ := h0
  obtain ⟨ts, hlen, hts, hx, hd⟩ := open_toks (by simpa [Value.cells] using hf)
  have hn : ts.length * 32 ≤ 140737488355328 := by
    rcases hd with ⟨_, rfl⟩ | ⟨el, sp, he, hl⟩
    · simp
    · simp only at he
      have := sized_slice hsz (j := 0) (t := 22) (e := 34) rfl (by rw [he]; rfl) Try.underlying22
      rw [Try.bytes34] at this
      have h2 : reachBytes = 140737488351232 := rfl
      rw [h2] at this
      omega
  clear hA0 hval0 hsz
  refine (joins_walk _ ts W hts hn hx).mono fun e W' ⟨he, bel⟩ => ?_
  subst he
  exact ⟨_, rfl, _, _, _, [], _, [], hW', trodAll_mk1 (shut_bool Try.underlying4 _), (trodAll_cons_mk (Below.trod Try.laidOut (by kernel_rfl) (of_decide_eq_true (by kernel_rfl)) k0 bel lt0) trodAll_mk0), rfl, bel.frame _, fun h => by cases h⟩

theorem tokenJoins_holds : Rows.TokenJoinsSaid :=
  OpenClaim.holds_of_wide 4 Try.f4 rfl rfl rfl rfl rfl rfl rfl ⟨rfl, rfl, rfl, rfl, rfl⟩ rfl rfl rfl rfl rfl (by kernel_rfl) Try.func4 (by kernel_rfl)
    (of_decide_eq_true (by kernel_rfl)) (by unfold Func.isWrapper; first | (rw [if_pos (by decide +kernel)]; kernel_rfl) | (rw [if_neg (by decide +kernel)]; exact ⟨rfl, rfl⟩))
    (fun os started H enc _ => joins_lifted os started H enc)
end
#print axioms tokenJoins_holds
end Go.Proofs.Ytleaaflcnpmfdaa

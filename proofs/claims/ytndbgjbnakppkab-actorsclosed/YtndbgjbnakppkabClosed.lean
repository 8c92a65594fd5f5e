/- veilworklaw.ActorsClosed answers true, whatever it is handed: who acts for one who acts for another one acts for that one; with more grants nobody acts for fewer. -/
import Derived.Test.YtndbgjbnakppkabClosedB
import Derived.Test.YtndbgjbnakppkabOpen2
import Derived.ChangeOld
namespace Go.Proofs.Ytndbgjbnakppkab
open Go.RowKit
set_option linter.unusedVariables false

theorem closed_any (m g0 g1 : Int) (v : Value) (gs : List (Int × Int)) (w : World) (hv : IsGrants w v gs) (hsh : v = .slice none 0 0 ∨ ∃ ad l c, v = .slice (some ad) l c) :
    Calls Try.prog 4 #[.agg #[.int .i64 m, v], .agg #[.int .i64 g0, .int .i64 g1]] w fun e w' => e = .returned (.bool true) ∧ Below w.heap.size w w' := by
  by_cases hE : chkErr m gs = 0
  · obtain ⟨n, rfl, h1, hn, hgs, hlen, hb⟩ := chk_ok hE
    have hv' : IsGrants w v ((gnOf gs).map toI) := by rw [hgs]; exact hv
    have hE' : chkErr n ((gnOf gs).map toI) = 0 := by rw [hgs]; exact hE
    exact closed_ok n g0 g1 v (gnOf gs) w h1 hn hv' hlen hb hE' hsh
  · exact closed_bad m g0 g1 v gs w hv hE

section
open Go.ChangeShapes Go.WideShapes Go.ChangeAt

theorem Try.laidOut : laidOutB Try.prog = true := by kernel_rfl

set_option maxRecDepth 100000 in
theorem closed_lifted (os : Os) (started : os.Started) (H : Type) (enc : TypeId × Value → H) :
    ReturnsInHanded {} Try.checked os 4 .any (Rows.actorsClosedSpec.pre6 enc Try.prog Try.f4 Rows.actorsClosedRow.domain false) (Rows.actorsClosedSpec.post enc Try.prog Try.f4 false true false false) := by
  refine returnsInHanded_of_change (C := Try.checked) Try.own started (by kernel_rfl) Try.func4
    (ChangeSpec.witness6 (enc := enc) (C := Try.checked) false ⟨#[], #[.agg #[.int .i64 0, .slice none 0 0], .agg #[.int .i64 0, .int .i64 0]], []⟩ 8 (by kernel_rfl) (by kernel_rfl) (by kernel_rfl) (by kernel_rfl)) ?_
  intro W base args ds gs before hval0 hW hcnd _
  have hval : ∀ (j : Nat) t v, Try.f4.params[j]? = some t → args[j]? = some v → Value.okWide Try.prog W .any base t v := hval0
  have hW' := hW
  obtain ⟨p, q, hA0, hV, rfl, hfz, hnd⟩ := hW
  have hA : DataW.TrodAll enc Try.prog W 0 (fun _ => true) true Try.f4.params.toList args.toList ds p := hA0
  rw [Try.params4] at hA hval
  obtain ⟨v0, vs0, d0, ds0, p0, q0, hargs, rfl, rfl, h0, r0⟩ := trodAll_cons hA
  obtain ⟨v1, vs1, d1, ds1, p1, q1, rfl, rfl, rfl, h1, r1⟩ := trodAll_cons r0
  obtain ⟨rfl, rfl, rfl⟩ := trodAll_nil r1
  obtain rfl : args = #[v0, v1] := by cases args; simp_all
  obtain ⟨rfl, rfl⟩ := trodVars_none hV
  obtain ⟨m, s, gs, rfl, hgs, hsh⟩ := open_actors2 (hval 0 24 v0 rfl rfl) h0
  obtain ⟨ga, gb, rfl⟩ := open_grant (hval 1 37 v1 rfl rfl) h1
  have k0 := h0
  have lt0 : ∀ x ∈ p0, x.block < W.heap.size := by obtain ⟨m, hm⟩ := k0; exact DataW.trod_lt m _ _ _ hm
  have k1 := h1
  have lt1 : ∀ x ∈ p1, x.block < W.heap.size := by obtain ⟨m, hm⟩ := k1; exact DataW.trod_lt m _ _ _ hm
  clear hA0 hval0
  refine (closed_any m ga gb s gs W hgs hsh).mono fun e W' ⟨he, bel⟩ => ?_
  subst he
  exact ⟨_, rfl, _, _, _, [], _, [], hW', trodAll_mk1 (shut_bool Try.underlying4 _), (trodAll_cons_mk (Below.trod Try.laidOut (by kernel_rfl) (of_decide_eq_true (by kernel_rfl)) k0 bel lt0) (trodAll_cons_mk (Below.trod Try.laidOut (by kernel_rfl) (of_decide_eq_true (by kernel_rfl)) k1 bel lt1) trodAll_mk0)), rfl, bel.frame _, fun h => by cases h⟩

theorem actorsClosed_holds : Rows.ActorsClosedSaid :=
  OpenClaim.holds_of_wide 4 Try.f4 rfl rfl rfl rfl rfl rfl rfl ⟨rfl, rfl, rfl, rfl, rfl⟩ rfl rfl rfl rfl rfl (by kernel_rfl) Try.func4 (by kernel_rfl)
    (of_decide_eq_true (by kernel_rfl)) (by unfold Func.isWrapper; first | (rw [if_pos (by decide +kernel)]; kernel_rfl) | (rw [if_neg (by decide +kernel)]; exact ⟨rfl, rfl⟩))
    (fun os started H enc _ => closed_lifted os started H enc)
end
#print axioms actorsClosed_holds
end Go.Proofs.Ytndbgjbnakppkab

/- veilworklaw.ActorsTell answers true, whatever it is handed: all calls of actors answer just what the document says, errors too. -/
import Derived.Test.YtndbgjbnakppkabTellB
import Derived.Test.YtndbgjbnakppkabTellC
import Derived.Test.YtndbgjbnakppkabTellD
import Derived.Test.YtndbgjbnakppkabOpen
import Derived.ChangeOld
namespace Go.Proofs.Ytndbgjbnakppkab
open Go.RowKit
set_option linter.unusedVariables false

theorem tell_any (m who other : Int) (v : Value) (gs : List (Int × Int)) (w : World) (hv : IsGrants w v gs) :
    Calls Try.prog 3 #[.agg #[.int .i64 m, v], .int .i64 who, .int .i64 other] w fun e w' => e = .returned (.bool true) ∧ Below w.heap.size w w' := by
  by_cases hE : chkErr m gs = 0
  · obtain ⟨n, rfl, h1, hn, hgs, hlen, hb⟩ := chk_ok hE
    have hv' : IsGrants w v ((gnOf gs).map toI) := by rw [hgs]; exact hv
    have hE' : chkErr n ((gnOf gs).map toI) = 0 := by rw [hgs]; exact hE
    have hgn : gnOf ((gnOf gs).map toI) = gnOf gs := by rw [hgs]
    cases h0 : isOne n who with
    | false => exact tell_f n who other v (gnOf gs) w h1 hn hv' hlen hb hE' hgn h0
    | true =>
      cases h2 : isOne n other with
      | false => exact tell_tf n who other v (gnOf gs) w h1 hn hv' hlen hb hE' hgn ⟨h0, h2⟩
      | true => exact tell_tt n who other v (gnOf gs) w h1 hn hv' hlen hb hE' hgn ⟨h0, h2⟩
  · exact tell_bad m who other v gs w hv hE

section
open Go.ChangeShapes Go.WideShapes Go.ChangeAt

theorem Try.laidOut : laidOutB Try.prog = true := by kernel_rfl

set_option maxRecDepth 100000 in
theorem tell_lifted (os : Os) (started : os.Started) (H : Type) (enc : TypeId × Value → H) :
    ReturnsInHanded {} Try.checked os 3 .any (Rows.actorsTellSpec.pre6 enc Try.prog Try.f3 Rows.actorsTellRow.domain false) (Rows.actorsTellSpec.post enc Try.prog Try.f3 false true false false) := by
  refine returnsInHanded_of_change (C := Try.checked) Try.own started (by kernel_rfl) Try.func3
    (ChangeSpec.witness6 (enc := enc) (C := Try.checked) false ⟨#[], #[.agg #[.int .i64 0, .slice none 0 0], .int .i64 0, .int .i64 0], []⟩ 8 (by kernel_rfl) (by kernel_rfl) (by kernel_rfl) (by kernel_rfl)) ?_
  intro W base args ds gs before hval0 hW hcnd _
  have hval : ∀ (j : Nat) t v, Try.f3.params[j]? = some t → args[j]? = some v → Value.okWide Try.prog W .any base t v := hval0
  have hW' := hW
  obtain ⟨p, q, hA0, hV, rfl, hfz, hnd⟩ := hW
  have hA : DataW.TrodAll enc Try.prog W 0 (fun _ => true) true Try.f3.params.toList args.toList ds p := hA0
  rw [Try.params3] at hA hval
  obtain ⟨v0, vs0, d0, ds0, p0, q0, hargs, rfl, rfl, h0, r0⟩ := trodAll_cons hA
  obtain ⟨v1, vs1, d1, ds1, p1, q1, rfl, rfl, rfl, h1, r1⟩ := trodAll_cons r0
  obtain ⟨v2, vs2, d2, ds2, p2, q2, rfl, rfl, rfl, h2, r2⟩ := trodAll_cons r1
  obtain ⟨rfl, rfl, rfl⟩ := trodAll_nil r2
  obtain rfl : args = #[v0, v1, v2] := by cases args; simp_all
  obtain ⟨rfl, rfl⟩ := trodVars_none hV
  obtain ⟨who, rfl, rfl, rfl, w1⟩ := open_int Try.underlying3 (hval 1 3 v1 rfl rfl) h1
  obtain ⟨other, rfl, rfl, rfl, w2⟩ := open_int Try.underlying3 (hval 2 3 v2 rfl rfl) h2
  obtain ⟨m, s, gs, rfl, hgs⟩ := open_actors (hval 0 24 v0 rfl rfl) h0
  have k0 := h0
  have lt0 : ∀ x ∈ p0, x.block < W.heap.size := by obtain ⟨m, hm⟩ := k0; exact DataW.trod_lt m _ _ _ hm
  clear hA0 hval0
  refine (tell_any m who other s gs W hgs).mono fun e W' ⟨he, bel⟩ => ?_
  subst he
  exact ⟨_, rfl, _, _, _, [], _, [], hW', trodAll_mk1 (shut_bool Try.underlying4 _), (trodAll_cons_mk (Below.trod Try.laidOut (by kernel_rfl) (of_decide_eq_true (by kernel_rfl)) k0 bel lt0) (trodAll_cons_mk (shut_int Try.underlying3 w1) (trodAll_cons_mk (shut_int Try.underlying3 w2) trodAll_mk0))), rfl, bel.frame _, fun h => by cases h⟩

theorem actorsTell_holds : Rows.ActorsTellSaid :=
  OpenClaim.holds_of_wide 3 Try.f3 rfl rfl rfl rfl rfl rfl rfl ⟨rfl, rfl, rfl, rfl, rfl⟩ rfl rfl rfl rfl rfl (by kernel_rfl) Try.func3 (by kernel_rfl)
    (of_decide_eq_true (by kernel_rfl)) (by unfold Func.isWrapper; first | (rw [if_pos (by decide +kernel)]; kernel_rfl) | (rw [if_neg (by decide +kernel)]; exact ⟨rfl, rfl⟩))
    (fun os started H enc _ => tell_lifted os started H enc)
end
#print axioms actorsTell_holds
end Go.Proofs.Ytndbgjbnakppkab

/- veilworklaw.RestLevels answers true, whatever it is handed: levels that came, and were changed, change nothing that was handed in, nor what comes next. -/
import Derived.Test.YtekgnjifopgboaaRestB
import Derived.Test.YtekgnjifopgboaaRestC
import Derived.Test.YtekgnjifopgboaaLevOpen
import Derived.ChangeOld
import Derived.SizedLaws
namespace Go.Proofs.Ytekgnjifopgboaa
open Go.RowKit
set_option linter.unusedVariables false

theorem rest_any (m : Int) (v : Value) (gs : List (Int × Int)) (vl : Value) (l : Lev) (vk : Value) (k : Lev) (pr pw : Value) (bl : Lab) (w : World) (hv : IsGrants w v gs) (hl : LevAt w vl l) (hk : LevAt w vk k) (hp : IsPols w pr bl.r) (hq : IsPols w pw bl.w) (hz1 : l.r.length ≤ 140737488351232 ∧ l.w.length ≤ 140737488351232) (hz2 : k.r.length ≤ 140737488351232 ∧ k.w.length ≤ 140737488351232) (hh1 : ∀ x y, vl = .agg #[x, y] → Shape x ∧ Shape y) (hh2 : ∀ x y, vk = .agg #[x, y] → Shape x ∧ Shape y) :
    Calls Try.prog 7 #[.agg #[.int .i64 m, v], vl, vk, .agg #[pr, pw]] w fun e w' => e = .returned (.bool true) ∧ Below w.heap.size w w' := by
  by_cases hE : chkErr m gs = 0
  · by_cases hL : labErr m bl = 0
    · exact rest_ok m v gs vl vk l k pr pw bl w hv hl hk hp hq hz1 hz2 hh1 hh2 hE hL
    · exact rest_lab m v gs vl vk l k pr pw bl w hv hl hk hp hq hz1 hz2 hh1 hh2 hE hL
  · exact rest_bad m v gs vl vk l k pr pw bl w hv hl hk hp hq hz1 hz2 hh1 hh2 hE

section
open Go.ChangeShapes Go.WideShapes Go.ChangeAt

theorem Try.bytes4 : Try.prog.bytesOf 4 = 1 := by kernel_rfl

theorem open_bools2 {H : Type} {enc : TypeId × Value → H} {W : World} {fuel : Nat} {v : Value} {x : DataW H × List MemPlace} (h : DataW.trod enc Try.prog W 0 (fun _ => true) true fuel 28 [v] = some x) (hw : ∀ n ∈ x.1.weights Try.prog 28, n ≤ reachBytes) :
    ∃ l : List Bool, IsBools W v l ∧ l.length ≤ 140737488351232 ∧ Shape v := by
  obtain ⟨l, hl, _⟩ := open_bools h
  refine ⟨l, hl, ?_⟩
  rcases Deep.open_slice1 Try.underlying28 Try.cells4 h with ⟨hcs, hx⟩ | ⟨a, len, cap, m, n, V, D, Pl, hcs, _, hlc, hm, hmm, hx, hel⟩
  · simp at hcs
    subst hcs
    obtain ⟨ao, c, e, _⟩ := hl
    injection e with _ e2
    exact ⟨by omega, Or.inl rfl⟩
  · simp at hcs
    subst hcs
    obtain ⟨ao, c, e, _⟩ := hl
    injection e with _ e2
    subst hx
    have hw0 := hw ((((List.range len).map D).length + ((List.range (m - len)).map fun j => D (len + j)).length) * Try.prog.bytesOf 4) (by
      simp only [DataW.weights, Try.underlying28]
      exact List.mem_cons_self)
    rw [Try.bytes4] at hw0
    simp only [List.length_map, List.length_range, reachBytes] at hw0
    exact ⟨by omega, Or.inr ⟨_, _, _, rfl⟩⟩

theorem open_level2 {H : Type} {enc : TypeId × Value → H} {W : World} {r : Go.Reach} {b0 : Nat} {v : Value} {d : DataW H} {p : List MemPlace} (hv : Value.okWide Try.prog W r b0 30 v) (h : DataW.Trod enc Try.prog W 0 (fun _ => true) true 30 v d p) (hw : ∀ n ∈ d.weights Try.prog 30, n ≤ reachBytes) :
    ∃ l : Lev, LevAt W v l ∧ (l.r.length ≤ 140737488351232 ∧ l.w.length ≤ 140737488351232) ∧ ∀ x y, v = .agg #[x, y] → Shape x ∧ Shape y := by
  obtain ⟨v0, v1, y0, y1, n, rfl, rfl, -, h0, h1⟩ := Joins.open_agg2 Try.underlying30 (by kernel_rfl) Try.cells30 hv h
  have hd : (DataW.agg [y0.1, y1.1] : DataW H).weights Try.prog 30 = y0.1.weights Try.prog 28 ++ (y1.1.weights Try.prog 28 ++ []) := by
    simp only [DataW.weights, Try.underlying30]
    simp [DataW.weightsEach]
  rw [hd] at hw
  obtain ⟨a, ha, la, sa⟩ := open_bools2 h0 (fun n hn => hw n (by simp [hn]))
  obtain ⟨b, hb, lb, sb⟩ := open_bools2 h1 (fun n hn => hw n (by simp [hn]))
  refine ⟨⟨a, b⟩, ⟨v0, v1, rfl, ha, hb⟩, ⟨la, lb⟩, fun x y e => ?_⟩
  obtain ⟨rfl, rfl⟩ : v0 = x ∧ v1 = y := by simpa using e
  exact ⟨sa, sb⟩

set_option maxRecDepth 100000 in
theorem restLevels_lifted (os : Os) (started : os.Started) (H : Type) (enc : TypeId × Value → H) :
    ReturnsInHanded {} Try.checked os 7 .any (Rows.restLevelsSpec.pre6 enc Try.prog Try.f7 Rows.restLevelsRow.domain false) (Rows.restLevelsSpec.post enc Try.prog Try.f7 false true false false) := by
  refine returnsInHanded_of_change_sized (C := Try.checked) Try.own started (by kernel_rfl) Try.func7
    (ChangeSpec.witness6 (enc := enc) (C := Try.checked) false ⟨#[], #[.agg #[.int .i64 0, .slice none 0 0], .agg #[.slice none 0 0, .slice none 0 0], .agg #[.slice none 0 0, .slice none 0 0], .agg #[.slice none 0 0, .slice none 0 0]], []⟩ 8 (by kernel_rfl) (by kernel_rfl) (by kernel_rfl) (by kernel_rfl)) ?_
  intro W base args ds gs before hval0 hW hcnd hsz0 _
  have hval : ∀ (j : Nat) t v, Try.f7.params[j]? = some t → args[j]? = some v → Value.okWide Try.prog W .any base t v := hval0
  have hW' := hW
  obtain ⟨p, q, hA0, hV, rfl, hfz, hnd⟩ := hW
  have hA : DataW.TrodAll enc Try.prog W 0 (fun _ => true) true Try.f7.params.toList args.toList ds p := hA0
  have hwt : ∀ (j t : Nat) (d : DataW H), (Try.f7.params.toList ++ Rows.restLevelsSpec.plain.varTypes Try.prog)[j]? = some t → (ds ++ gs)[j]? = some d → ∀ n ∈ d.weights Try.prog t, n ≤ reachBytes := fun j t d ht hd n hn => by
    have := List.all_eq_true.1 hsz0 n (DataW.weights_mem_each ht hd n hn)
    simpa using this
  rw [Try.params7] at hA hval hwt
  obtain ⟨v0, vs0, d0, ds0, p0, q0, hargs, rfl, rfl, h0, r0⟩ := trodAll_cons hA
  obtain ⟨v1, vs1, d1, ds1, p1, q1, rfl, rfl, rfl, h1, r1⟩ := trodAll_cons r0
  obtain ⟨v2, vs2, d2, ds2, p2, q2, rfl, rfl, rfl, h2, r2⟩ := trodAll_cons r1
  obtain ⟨v3, vs3, d3, ds3, p3, q3, rfl, rfl, rfl, h3, r3⟩ := trodAll_cons r2
  obtain ⟨rfl, rfl, rfl⟩ := trodAll_nil r3
  obtain rfl : args = #[v0, v1, v2, v3] := by cases args; simp_all
  obtain ⟨rfl, rfl⟩ := trodVars_none hV
  obtain ⟨m0, s0, g0, rfl, hg0⟩ := open_actors (hval 0 24 v0 rfl rfl) h0
  obtain ⟨l1, hl1, hz1, hh1⟩ := open_level2 (hval 1 30 v1 rfl rfl) h1 (hwt 1 30 d1 rfl rfl)
  obtain ⟨l2, hl2, hz2, hh2⟩ := open_level2 (hval 2 30 v2 rfl rfl) h2 (hwt 2 30 d2 rfl rfl)
  obtain ⟨pr3, pw3, bl3, rfl, hp3, hq3⟩ := open_label (hval 3 27 v3 rfl rfl) h3
  have k0 := h0
  have lt0 : ∀ x ∈ p0, x.block < W.heap.size := by obtain ⟨m, hm⟩ := k0; exact DataW.trod_lt m _ _ _ hm
  have k1 := h1
  have lt1 : ∀ x ∈ p1, x.block < W.heap.size := by obtain ⟨m, hm⟩ := k1; exact DataW.trod_lt m _ _ _ hm
  have k2 := h2
  have lt2 : ∀ x ∈ p2, x.block < W.heap.size := by obtain ⟨m, hm⟩ := k2; exact DataW.trod_lt m _ _ _ hm
  have k3 := h3
  have lt3 : ∀ x ∈ p3, x.block < W.heap.size := by obtain ⟨m, hm⟩ := k3; exact DataW.trod_lt m _ _ _ hm
  clear hA0 hval0
  refine (rest_any m0 s0 g0 v1 l1 v2 l2 pr3 pw3 bl3 W hg0 hl1 hl2 hp3 hq3 hz1 hz2 hh1 hh2).mono fun e W' ⟨he, bel⟩ => ?_
  subst he
  exact ⟨_, rfl, _, _, _, [], _, [], hW', trodAll_mk1 (shut_bool Try.underlying4 _), (trodAll_cons_mk (Below.trod Try.laidOut (by kernel_rfl) (of_decide_eq_true (by kernel_rfl)) k0 bel lt0) (trodAll_cons_mk (Below.trod Try.laidOut (by kernel_rfl) (of_decide_eq_true (by kernel_rfl)) k1 bel lt1) (trodAll_cons_mk (Below.trod Try.laidOut (by kernel_rfl) (of_decide_eq_true (by kernel_rfl)) k2 bel lt2) (trodAll_cons_mk (Below.trod Try.laidOut (by kernel_rfl) (of_decide_eq_true (by kernel_rfl)) k3 bel lt3) trodAll_mk0)))), rfl, bel.frame _, fun h => by cases h⟩

theorem restLevels_holds : Rows.RestLevelsSaid :=
  OpenClaim.holds_of_wide 7 Try.f7 rfl rfl rfl rfl rfl rfl rfl ⟨rfl, rfl, rfl, rfl, rfl⟩ rfl rfl rfl rfl rfl (by kernel_rfl) Try.func7 (by kernel_rfl)
    (of_decide_eq_true (by kernel_rfl)) (by unfold Func.isWrapper; first | (rw [if_pos (by decide +kernel)]; kernel_rfl) | (rw [if_neg (by decide +kernel)]; exact ⟨rfl, rfl⟩))
    (fun os started H enc _ => restLevels_lifted os started H enc)
end
#print axioms restLevels_holds
end Go.Proofs.Ytekgnjifopgboaa

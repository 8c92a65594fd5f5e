/- The document's own check of a label; is a level what it must be beside an errno. -/
import Derived.Test.YtekgnjifopgboaaRefC
import Derived.Test.YtekgnjifopgboaaRefV
namespace Go.Proofs.Ytekgnjifopgboaa
open Go.RowKit
set_option linter.unusedVariables false

def labErr (m : Int) (b : Lab) : Int := if polsErr m b.r = 0 then polsErr m b.w else polsErr m b.r

theorem firstErr_ok {m : Int} {ps : List Pol} (h : firstErr m ps = 0) : ∀ p ∈ ps, polErr m p = 0 := by
  induction ps with
  | nil => simp
  | cons p ps ih =>
    rw [firstErr] at h
    split at h
    · rename_i h0
      intro q hq
      rcases List.mem_cons.1 hq with rfl | hq
      · exact h0
      · exact ih h q hq
    · rename_i h0
      exact absurd h h0

theorem polErr_ok {n : Nat} {p : Pol} (h : polErr n p = 0) : polIn n p := by
  unfold polErr at h
  split at h
  · split at h
    · split at h
      · rename_i h1 h2 h3
        simp [isOne] at h1
        refine ⟨h1, h2, fun x hx => ?_⟩
        have := List.all_eq_true.1 h3 x hx
        simp [isOne] at this
        exact this
      · cases h
    · cases h
  · cases h

theorem polsErr_ok {n : Nat} {ps : List Pol} (h : polsErr n ps = 0) : ps.length ≤ 4 ∧ ∀ p ∈ ps, polIn n p := by
  unfold polsErr at h
  split at h
  · rename_i h1
    exact ⟨h1, fun p hp => polErr_ok (firstErr_ok h p hp)⟩
  · cases h

theorem labErr_ok {n : Nat} {b : Lab} (h : labErr n b = 0) : labIn n b := by
  unfold labErr at h
  split at h
  · rename_i h1
    exact ⟨polsErr_ok h1, polsErr_ok h⟩
  · rename_i h1
    exact absurd h h1

set_option maxHeartbeats 1000000 in
theorem checkLabel_any (m : Int) (hm : 1 ≤ m ∧ m ≤ 6) (v pr pw : Value) (bl : Lab) (w : World) (hp : IsPols w pr bl.r) (hq : IsPols w pw bl.w) :
    Calls Try.prog 10 #[.agg #[.int .i64 m, v], .agg #[pr, pw]] w fun e w' => e = .returned (.int .i64 (labErr m bl)) ∧ Below w.heap.size w w' := by
  have hbel : Below w.heap.size w ((w.alloc (.cells #[.int .i64 m, v] 24)).alloc (.cells #[pr, pw] 27)) := ((Below.refl _ w).alloc (Nat.le_refl _) _).alloc (by simp) _
  have h1 := checkPolicies_any m hm v pr bl.r _ (isPols_over hp hbel)
  have h2 := fun (W : World) (hW : Below w.heap.size w W) => checkPolicies_any m hm v pw bl.w W (isPols_over hq hW)
  have hx : labErr m bl = if polsErr m bl.r = 0 then polsErr m bl.w else polsErr m bl.r := rfl
  obtain ⟨e1, he1⟩ : ∃ e, e = polsErr m bl.r := ⟨_, rfl⟩
  obtain ⟨e2, he2⟩ : ∃ e, e = polsErr m bl.w := ⟨_, rfl⟩
  rw [← he1, ← he2] at hx
  rw [← he1] at h1
  rw [← he2] at h2
  rw [hx]
  have K1 := hide h1
  have K2 := hide h2
  clear h1 h2 he1 he2 hx hp hq
  by_cases h0 : e1 = 0
  · subst h0
    go_enter Try.func10, Try.ntmps10
    go_wp2_with fail
    refine (K1.out).mono ?_
    rintro e w1 ⟨rfl, hb1⟩
    obtain ⟨hc, hf⟩ := bcell hb1
    have c0 : w1.cell? ⟨w.heap.size, 0, none⟩ = some (.int .i64 m) := by rw [hc _ _ (by simp; omega)]; simp [go_sem]
    have c1 : w1.cell? ⟨w.heap.size, 1, none⟩ = some v := by rw [hc _ _ (by simp; omega)]; simp [go_sem]
    have c2 : w1.cell? ⟨w.heap.size + 1, 1, none⟩ = some pw := by rw [hc _ _ (by simp)]; simp [go_sem]
    have hbel1 : Below w.heap.size w w1 := hbel.trans (hb1.mono (by simp; omega))
    clear hc hf hb1 K1
    go_wp2_with fail
    refine (K2.out _ hbel1).mono ?_
    rintro e w2 ⟨rfl, hb2⟩
    have hbel2 : Below w.heap.size w w2 := hbel1.trans (hb2.mono hbel1.size)
    clear K2 c0 c1 c2
    go_wp2_with fail
    go_ret
    exact ⟨rfl, hbel2⟩
  · have b1 : (e1 == 0) = false := by simpa using h0
    rw [if_neg h0]
    clear h0
    go_enter Try.func10, Try.ntmps10
    go_wp2_with fail
    refine (K1.out).mono ?_
    rintro e w1 ⟨rfl, hb1⟩
    have hbel1 : Below w.heap.size w w1 := hbel.trans (hb1.mono (by simp; omega))
    go_wp2_with fail
    go_ret
    exact ⟨rfl, hbel1⟩

def noLev : Lev := ⟨[], []⟩

theorem noLev_at (W : World) : LevAt W (.agg #[.slice none 0 0, .slice none 0 0]) noLev :=
  ⟨_, _, rfl, ⟨none, 0, rfl, fun h => absurd rfl h⟩, ⟨none, 0, rfl, fun h => absurd rfl h⟩⟩

def levelIsB (l : Lev) (e w : Int) (want : Lev) : Bool := decide (e = w) && sameLev l (if w = 0 then want else noLev)

set_option maxHeartbeats 2000000 in
theorem levelIs_any (vl vm : Value) (l m : Lev) (e0 e1 : Int) (w : World) (hl : LevAt w vl l) (hm : LevAt w vm m) (hs : l.small) :
    Calls Try.prog 14 #[vl, .int .i64 e0, .int .i64 e1, vm] w fun e w' => e = .returned (.bool (levelIsB l e0 e1 m)) ∧ Below w.heap.size w w' := by
  have KS := hide fun (v1 v2 : Value) (l1 l2 : Lev) (W : World) (h1 : LevAt W v1 l1) (h2 : LevAt W v2 l2) (hs : l1.small) => sameLevel_any v1 v2 l1 l2 W h1 h2 hs
  have HL := hide hl
  have HM := hide hm
  obtain ⟨r1, w1, rfl, ⟨a1, k1, rfl, -⟩, ⟨a2, k2, rfl, -⟩⟩ := hl
  obtain ⟨r2, w2, rfl, ⟨a3, k3, rfl, -⟩, ⟨a4, k4, rfl, -⟩⟩ := hm
  have hx : levelIsB l e0 e1 m = (decide (e0 = e1) && sameLev l (if e1 = 0 then m else noLev)) := rfl
  have HSM := hide hs
  clear hs
  by_cases h1 : e1 = 0
  · subst h1
    rw [if_pos rfl] at hx
    by_cases h0 : e0 = 0
    · subst h0
      rw [hx]
      have hbel : Below w.heap.size w ((w.alloc (.cells #[.slice a1 l.r.length k1, .slice a2 l.w.length k2] 30)).alloc (.cells #[.slice a3 m.r.length k3, .slice a4 m.w.length k4] 30)) := ((Below.refl _ w).alloc (Nat.le_refl _) _).alloc (by simp) _
      have K := hide (KS.out _ _ _ _ _ (levAt_over HL.out hbel) (levAt_over HM.out hbel) HSM.out)
      clear hx KS
      go_enter Try.func14, Try.ntmps14
      go_wp2_with fail
      refine (K.out).mono ?_
      rintro e w3 ⟨rfl, hb⟩
      have hbel2 : Below w.heap.size w w3 := hbel.trans (hb.mono hbel.size)
      clear K
      go_wp2_with fail
      go_ret
      exact ⟨by simp, hbel2⟩
    · have hf : levelIsB l e0 0 m = false := by rw [hx, decide_eq_false h0]; rfl
      rw [hf]
      have b1 : (e0 == 0) = false := by simpa using h0
      clear hx hf h0 KS
      go_enter Try.func14, Try.ntmps14
      go_wp2_with fail
      go_ret
      exact ⟨rfl, ((Below.refl _ w).alloc (Nat.le_refl _) _).alloc (by simp) _⟩
  · rw [if_neg h1] at hx
    have b0 : (e1 != 0) = true := by simpa using h1
    clear h1
    by_cases h0 : e0 = e1
    · subst h0
      rw [hx]
      have hbel : Below w.heap.size w ((w.alloc (.cells #[.slice a1 l.r.length k1, .slice a2 l.w.length k2] 30)).alloc (.cells #[.slice none 0 0, .slice none 0 0] 30)) := ((Below.refl _ w).alloc (Nat.le_refl _) _).alloc (by simp) _
      have K := hide (KS.out _ _ _ _ _ (levAt_over HL.out hbel) (noLev_at _) HSM.out)
      clear hx KS
      go_enter Try.func14, Try.ntmps14
      go_wp2_with fail
      refine (K.out).mono ?_
      rintro e w3 ⟨rfl, hb⟩
      have hbel2 : Below w.heap.size w w3 := hbel.trans (hb.mono hbel.size)
      clear K
      go_wp2_with fail
      go_ret
      exact ⟨by simp, hbel2⟩
    · have hf : levelIsB l e0 e1 m = false := by rw [hx, decide_eq_false h0]; rfl
      rw [hf]
      have b1 : (e0 == e1) = false := by simpa using h0
      clear hx hf h0 KS
      go_enter Try.func14, Try.ntmps14
      go_wp2_with fail
      go_ret
      exact ⟨rfl, ((Below.refl _ w).alloc (Nat.le_refl _) _).alloc (by simp) _⟩
end Go.Proofs.Ytekgnjifopgboaa

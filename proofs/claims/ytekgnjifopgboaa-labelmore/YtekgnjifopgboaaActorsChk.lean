/- actors.Check and the document's own check answer alike, whatever they are handed. -/
import Derived.Test.YtekgnjifopgboaaActorsSmall
namespace Go.Proofs.Ytekgnjifopgboaa
open Go.RowKit
set_option linter.unusedVariables false

def badG (m : Int) (g : Int × Int) : Bool := !isOne m g.1 || !isOne m g.2
def chkErr (m : Int) (gs : List (Int × Int)) : Int := if 1 ≤ m ∧ m ≤ 6 then (if gs.length ≤ 20 then (if gs.any (badG m) = true then 5 else 0) else 2) else 3

theorem call17 (args : Array Value) (w : World) : (callFunc 52 args).run Try.prog w = .ok (.enter 52 args) w := by simp [go_sem]
theorem call18 (args : Array Value) (w : World) : (callFunc 55 args).run Try.prog w = .ok (.enter 55 args) w := by simp [go_sem]

set_option maxHeartbeats 400000 in
theorem chkOne_any (m : Int) (s : Value) (b : Nat) (g : Int × Int) (w : World) (h0 : w.cell? ⟨b, 0, none⟩ = some (.int .i64 m)) (h1 : w.cell? ⟨b, 1, none⟩ = some s) :
    Calls Try.prog 52 #[.agg #[.int .i64 g.1, .int .i64 g.2], .pointer (some ⟨b, 0, none⟩)] w fun e w' => e = .returned (.bool (badG m g)) ∧ Below w.heap.size w w' := by
  obtain ⟨g0, g1⟩ := g
  have hlt := World.block_lt_of_cell? w _ h0
  have hne : b ≠ w.heap.size := by have : b < w.heap.size := hlt; omega
  simp only
  have H1 := fun w => isOne_any m g0 s w
  have H2 := fun w => isOne_any m g1 s w
  obtain ⟨r1, hr1⟩ : ∃ r, r = isOne m g0 := ⟨_, rfl⟩
  obtain ⟨r2, hr2⟩ : ∃ r, r = isOne m g1 := ⟨_, rfl⟩
  have hbad : badG m (g0, g1) = (!r1 || !r2) := by rw [hr1, hr2]; rfl
  rw [← hr1] at H1
  rw [← hr2] at H2
  rw [hbad]
  have K1 := hide H1
  have K2 := hide H2
  clear H1 H2 hr1 hr2 hbad
  have hal : Below w.heap.size w (w.alloc (.cells #[.int .i64 g0, .int .i64 g1] 65)) := (Below.refl _ w).alloc (Nat.le_refl _) _
  cases r1 with
  | true =>
    go_enter Try.func52, Try.ntmps52
    go_wp2_with fail
    refine (K1.out _).mono ?_
    rintro e w1 ⟨rfl, hb1⟩
    obtain ⟨hc, hf⟩ := bcell hb1
    have hlt2 : b < (w.alloc (.cells #[.int .i64 g0, .int .i64 g1] 65)).heap.size := by simp; exact Nat.lt_succ_of_lt hlt
    have c0 : w1.cell? ⟨b, 0, none⟩ = some (.int .i64 m) := by rw [hc _ _ hlt2, (bcell hal).1 _ _ hlt]; exact h0
    have c1 : w1.cell? ⟨b, 1, none⟩ = some s := by rw [hc _ _ hlt2, (bcell hal).1 _ _ hlt]; exact h1
    have e1 : w1.cell? ⟨w.heap.size, 1, none⟩ = some (.int .i64 g1) := by rw [hc _ _ (by simp)]; simp [go_sem]
    have hbel : Below w.heap.size w w1 := hal.trans (hb1.mono (by simp))
    clear hc hf hb1
    go_wp2_with fail
    refine (K2.out _).mono ?_
    rintro e w2 ⟨rfl, hb2⟩
    have hbel2 : Below w.heap.size w w2 := hbel.trans (hb2.mono hbel.size)
    go_wp2_with fail
    go_ret
    exact ⟨by simp, hbel2⟩
  | false =>
    go_enter Try.func52, Try.ntmps52
    go_wp2_with fail
    refine (K1.out _).mono ?_
    rintro e w1 ⟨rfl, hb1⟩
    have hbel : Below w.heap.size w w1 := hal.trans (hb1.mono (by simp))
    go_wp2_with fail
    go_ret
    exact ⟨by simp, hbel⟩

theorem idx_any (p : Int × Int → Bool) (gs : List (Int × Int)) : decide (0 ≤ idxOf p gs) = gs.any p := by
  unfold idxOf
  cases h : gs.findIdx? p with
  | none =>
    have : gs.any p = false := by rw [List.any_eq_false]; intro x hx; have := (List.findIdx?_eq_none_iff.1 h) x hx; simpa using this
    rw [this]; rfl
  | some i =>
    obtain ⟨hi, hp, _⟩ := List.findIdx?_eq_some_iff_getElem.1 h
    have : gs.any p = true := List.any_eq_true.2 ⟨_, List.getElem_mem hi, hp⟩
    rw [this]; simp

set_option maxHeartbeats 400000 in
theorem containsFunc_any (m : Int) (s : Value) (b : Nat) (v : Value) (gs : List (Int × Int)) (w : World) (hv : IsGrants w v gs) (hn : gs.length ≤ 20)
    (h0 : w.cell? ⟨b, 0, none⟩ = some (.int .i64 m)) (h1 : w.cell? ⟨b, 1, none⟩ = some s) :
    Calls Try.prog 51 #[v, .func (.func 52) #[] #[.pointer (some ⟨b, 0, none⟩)]] w fun e w' => e = .returned (.bool (gs.any (badG m))) ∧ Below w.heap.size w w' := by
  have hI := indexFunc_any 52 (.pointer (some ⟨b, 0, none⟩)) (badG m) v gs w hv hn (hide fun i hi w1 hb => by
    have hlt := World.block_lt_of_cell? w _ h0
    exact chkOne_any m s b gs[i] w1 (by rw [(bcell hb).1 _ _ hlt]; exact h0) (by rw [(bcell hb).1 _ _ hlt]; exact h1)) call17
  have hx := idx_any (badG m) gs
  obtain ⟨r, hr⟩ : ∃ r, r = idxOf (badG m) gs := ⟨_, rfl⟩
  rw [← hr] at hI hx
  rw [← hx]
  have HI := hide hI
  clear hI hx hr hv
  obtain ⟨u, hu⟩ : ∃ u, u = v := ⟨_, rfl⟩
  go_enter Try.func51, Try.ntmps51
  go_wp2_with fail
  refine (HI.out).mono ?_
  rintro e w1 ⟨rfl, hb1⟩
  go_wp2_with fail
  go_ret
  exact ⟨by simp, hb1⟩

set_option maxHeartbeats 1000000 in
theorem check_any (m : Int) (v : Value) (gs : List (Int × Int)) (w : World) (hv : IsGrants w v gs) :
    Calls Try.prog 40 #[.agg #[.int .i64 m, v]] w fun e w' => e = .returned (.int .i64 (chkErr m gs)) ∧ Below w.heap.size w w' := by
  have hbel : Below w.heap.size w (w.alloc (.cells #[.int .i64 m, v] 24)) := (Below.refl _ w).alloc (Nat.le_refl _) _
  by_cases h1 : m < 1
  · have hE : chkErr m gs = 3 := by unfold chkErr; rw [if_neg (by omega)]
    have HE := hide hE
    clear hE
    go_enter Try.func40, Try.ntmps40
    go_wp2_with fail
    go_ret
    exact ⟨by rw [HE.out]; rfl, hbel⟩
  by_cases h6 : 6 < m
  · have hE : chkErr m gs = 3 := by unfold chkErr; rw [if_neg (by omega)]
    have HE := hide hE
    clear hE
    go_enter Try.func40, Try.ntmps40
    go_wp2_with fail
    go_ret
    exact ⟨by rw [HE.out]; rfl, hbel⟩
  have hvo := isGrants_over hv hbel
  obtain ⟨ao, cap, hve, -⟩ := hv
  by_cases hn : gs.length ≤ 20
  · have hE : chkErr m gs = if gs.any (badG m) = true then 5 else 0 := by unfold chkErr; rw [if_pos (by omega), if_pos hn]
    have hC := containsFunc_any m v w.heap.size v gs (w.alloc (.cells #[.int .i64 m, v] 24)) hvo hn (by simp [go_sem]) (by simp [go_sem])
    obtain ⟨r, hr⟩ : ∃ r, r = gs.any (badG m) := ⟨_, rfl⟩
    rw [← hr] at hE hC
    subst hve
    have HE := hide hE
    have HC := hide hC
    clear hE hC hr hvo
    cases r with
    | true =>
      go_enter Try.func40, Try.ntmps40
      go_wp2_with fail
      refine (HC.out).mono ?_
      rintro e w1 ⟨rfl, hb1⟩
      have hbel1 : Below w.heap.size w w1 := hbel.trans (hb1.mono (by simp))
      go_wp2_with fail
      go_ret
      exact ⟨by rw [HE.out]; rfl, hbel1⟩
    | false =>
      go_enter Try.func40, Try.ntmps40
      go_wp2_with fail
      refine (HC.out).mono ?_
      rintro e w1 ⟨rfl, hb1⟩
      have hbel1 : Below w.heap.size w w1 := hbel.trans (hb1.mono (by simp))
      go_wp2_with fail
      go_ret
      exact ⟨by rw [HE.out]; rfl, hbel1⟩
  · have hE : chkErr m gs = 2 := by unfold chkErr; rw [if_pos (by omega), if_neg hn]
    have HE := hide hE
    subst hve
    clear hE hvo
    go_enter Try.func40, Try.ntmps40
    go_wp2_with fail
    go_ret
    exact ⟨by rw [HE.out]; rfl, hbel⟩

end Go.Proofs.Ytekgnjifopgboaa

/- Package label: policies: is a name one of the actors, do names rise, is a label right. -/
import Derived.Test.YtcbbjjenkommeaaM03
import Derived.Maps.AppendAt
import Derived.Deep.CutRange
import Derived.Deep.QuietTactic
import Derived.BigQuiet
import Derived.Deep.RegionHeld2
import Derived.Defers
import Derived.Recover
namespace Go.Proofs.Ytcbbjjenkommeaa
open Go.RowKit
set_option linter.unusedVariables false
/-- where the first number is of which something holds; none: -1. -/
def idxI (p : Int → Bool) (l : List Int) : Int := match l.findIdx? p with | some i => i | none => -1

theorem idxI_at {p : Int → Bool} {l : List Int} {k : Nat} (hk : k < l.length) (h : (l.take k).all (fun g => !p g) = true) (hp : p l[k] = true) : idxI p l = k := by
  have : l.findIdx? p = some k := by
    rw [List.findIdx?_eq_some_iff_getElem]
    refine ⟨hk, hp, fun j hj => ?_⟩
    have := List.all_eq_true.1 h l[j] (by rw [List.mem_take_iff_getElem]; exact ⟨j, by omega, rfl⟩)
    simpa using this
  simp [idxI, this]
theorem idxI_none {p : Int → Bool} {l : List Int} (h : l.all (fun g => !p g) = true) : idxI p l = -1 := by
  have : l.findIdx? p = none := by
    rw [List.findIdx?_eq_none_iff]
    intro x hx
    have := List.all_eq_true.1 h x hx
    simpa using this
  simp [idxI, this]
theorem idxI_any (p : Int → Bool) (l : List Int) : decide (0 ≤ idxI p l) = l.any p := by
  unfold idxI
  cases h : l.findIdx? p with
  | none =>
    have : l.any p = false := by rw [List.any_eq_false]; intro x hx; have := (List.findIdx?_eq_none_iff.1 h) x hx; simpa using this
    rw [this]; rfl
  | some i =>
    obtain ⟨hi, hp, _⟩ := List.findIdx?_eq_some_iff_getElem.1 h
    have : l.any p = true := List.any_eq_true.2 ⟨_, List.getElem_mem hi, hp⟩
    rw [this]; simp

set_option maxHeartbeats 1000000 in
theorem indexInt_any (F : FuncId) (cv : Value) (p : Int → Bool) (v : Value) (l : List Int) (w : World) (hv : IsInts w v l) (hn : l.length ≤ 6)
    (hF : Hid (∀ (i : Nat) (h : i < l.length) (w1 : World), Below w.heap.size w w1 → Calls Try.prog F #[.int .i64 l[i], cv] w1 fun e w2 => e = .returned (.bool (p l[i])) ∧ Below w1.heap.size w1 w2))
    (hC : ∀ (args : Array Value) (w : World), (callFunc F args).run Try.prog w = .ok (.enter F args) w) :
    Calls Try.prog 63 #[v, .func (.func F) #[] #[cv]] w fun e w' => e = .returned (.int .i64 (idxI p l)) ∧ Below w.heap.size w w' := by
  obtain ⟨ao, cap, rfl, hcc⟩ := hv
  go_enter Try.func63, Try.ntmps63
  go_wp2_with fail
  go_loopw [8] (fun i wr => ∃ k : Nat, k ≤ l.length ∧ i = .int .i64 k ∧ (l.take k).all (fun g => !p g) = true ∧ Below w.heap.size w wr) (fun i _ => l.length - (intOf i).toNat)
  case atStart => exact ⟨0, Nat.zero_le _, rfl, rfl, Below.refl _ w⟩
  case round =>
    obtain ⟨k, hk, rfl, hall, hbel⟩ := hrel
    by_cases hkl : k < l.length
    · obtain ⟨b, off, rfl, hcl⟩ := hcc (by rintro rfl; simp at hkl)
      have q0 := hcl k hkl
      have hlt := World.block_lt_of_cell? w _ q0
      rw [← (bcell hbel).1 _ _ hlt] at q0
      have hcall := hF.out k hkl
      have hat := fun (hp : p l[k] = true) => idxI_at hkl hall hp
      have htk : p l[k] = false → (l.take (k + 1)).all (fun g => !p g) = true := fun hp => by
        rw [List.take_succ_eq_append_getElem hkl, List.all_append, hall]
        simp [hp]
      obtain ⟨r, hr⟩ : ∃ r, r = p l[k] := ⟨_, rfl⟩
      obtain ⟨g0, hg0⟩ : ∃ r, r = l[k] := ⟨_, rfl⟩
      rw [← hr] at hcall hat htk
      rw [← hg0] at q0 hcall
      have HC := hide hcall
      have HA := hide hat
      have HT := hide htk
      clear hr hg0 hcall hat htk hcl hcc hF
      cases r with
      | true =>
        go_wp2_with fail
        refine (HC.out _ hbel).mono ?_
        rintro e w2 ⟨rfl, hb2⟩
        have hbel2 : Below w.heap.size w w2 := hbel.trans (hb2.mono hbel.size)
        go_wp2_with fail
        go_ret
        exact ⟨by rw [HA.out (by first | rfl | trivial)]; rfl, hbel2⟩
      | false =>
        go_wp2_with fail
        refine (HC.out _ hbel).mono ?_
        rintro e w2 ⟨rfl, hb2⟩
        have hbel2 : Below w.heap.size w w2 := hbel.trans (hb2.mono hbel.size)
        go_wp2_with fail
        exact ⟨⟨k + 1, by omega, by go_num, HT.out (by first | rfl | trivial), hbel2⟩, by simp [intOf]; omega⟩
    · have hke : k = l.length := by omega
      rw [hke, List.take_length] at hall
      have hx := idxI_none hall
      clear hall hcc hF
      go_wp2_with fail
      go_ret
      exact ⟨by rw [hx]; rfl, hbel⟩

set_option maxHeartbeats 400000 in
theorem containsInt_any (F : FuncId) (cv : Value) (p : Int → Bool) (v : Value) (l : List Int) (w : World) (hv : IsInts w v l) (hn : l.length ≤ 6)
    (hF : Hid (∀ (i : Nat) (h : i < l.length) (w1 : World), Below w.heap.size w w1 → Calls Try.prog F #[.int .i64 l[i], cv] w1 fun e w2 => e = .returned (.bool (p l[i])) ∧ Below w1.heap.size w1 w2))
    (hC : ∀ (args : Array Value) (w : World), (callFunc F args).run Try.prog w = .ok (.enter F args) w) :
    Calls Try.prog 24 #[v, .func (.func F) #[] #[cv]] w fun e w' => e = .returned (.bool (l.any p)) ∧ Below w.heap.size w w' := by
  have hI := indexInt_any F cv p v l w hv hn hF hC
  have hx := idxI_any p l
  obtain ⟨r, hr⟩ : ∃ r, r = idxI p l := ⟨_, rfl⟩
  rw [← hr] at hI hx
  rw [← hx]
  have HI := hide hI
  clear hI hx hr hv hC hF
  obtain ⟨u, hu⟩ : ∃ u, u = v := ⟨_, rfl⟩
  go_enter Try.func24, Try.ntmps24
  go_wp2_with fail
  refine (HI.out).mono ?_
  rintro e w1 ⟨rfl, hb1⟩
  go_wp2_with fail
  go_ret
  exact ⟨by simp, hb1⟩

theorem call58 (args : Array Value) (w : World) : (callFunc 147 args).run Try.prog w = .ok (.enter 147 args) w := by simp [go_sem]
set_option maxHeartbeats 400000 in
theorem isNone_any (m x : Int) (b : Nat) (w : World) (h0 : w.cell? ⟨b, 0, none⟩ = some (.int .i64 m)) :
    Calls Try.prog 147 #[.int .i64 x, .pointer (some ⟨b, 0, none⟩)] w fun e w' => e = .returned (.bool (!isOne m x)) ∧ Below w.heap.size w w' := by
  by_cases h1 : x < 0
  · have hx : isOne m x = false := by simp [isOne]; omega
    rw [hx]
    clear hx
    go_enter Try.func147, Try.ntmps147
    go_wp2_with fail
    go_ret
    exact ⟨by simp, Below.refl _ w⟩
  · by_cases h2 : m ≤ x
    · have hx : isOne m x = false := by simp [isOne]; omega
      rw [hx]
      clear hx
      go_enter Try.func147, Try.ntmps147
      go_wp2_with fail
      go_ret
      exact ⟨by simp, Below.refl _ w⟩
    · have hx : isOne m x = true := by simp [isOne]; omega
      rw [hx]
      clear hx
      go_enter Try.func147, Try.ntmps147
      go_wp2_with fail
      go_ret
      exact ⟨by simp, Below.refl _ w⟩

set_option maxHeartbeats 1000000 in
theorem rise_any (v : Value) (l : List Int) (w : World) (hv : IsInts w v l) (hn : l.length ≤ 6) :
    Calls Try.prog 148 #[v] w fun e w' => e = .returned (.bool (rises l)) ∧ Below w.heap.size w w' := by
  obtain ⟨ao, cap, rfl, hcc⟩ := hv
  have HCC := hide hcc
  clear hcc
  go_enter Try.func148, Try.ntmps148
  go_wp2_with fail
  go_loopw [3] (fun i wr => ∃ k n : Nat, k ≤ 6 ∧ i = .int .i64 ((k : Int) + 1) ∧ (∀ j (h : j + 1 < l.length), j < k → l[j] < l[j + 1]) ∧ wr = w.drewN n) (fun i _ => 10 - (intOf i).toNat)
  case atStart => exact ⟨0, 0, Nat.zero_le _, rfl, fun j _ h => absurd h (Nat.not_lt_zero _), rfl⟩
  case round =>
    obtain ⟨k, n, hk, rfl, hall, rfl⟩ := hrel
    by_cases hkl : k + 1 < l.length
    · obtain ⟨b, off, rfl, hcl⟩ := HCC.out (by rintro rfl; simp at hkl)
      have q0 := hcl k (by omega)
      have q1 := hcl (k + 1) hkl
      have hnext : l[k] < l[k + 1] → ∀ j (h : j + 1 < l.length), j < k + 1 → l[j] < l[j + 1] := fun h j hj hjk => by
        by_cases e : j = k
        · subst e; exact h
        · exact hall j hj (by omega)
      have hstop : ¬ l[k] < l[k + 1] → rises l = false := fun h => by
        rw [Bool.eq_false_iff]
        intro hh
        exact h ((rises_iff l).1 hh k hkl)
      obtain ⟨x, hx⟩ : ∃ x, x = l[k] := ⟨_, rfl⟩
      obtain ⟨y, hy⟩ : ∃ y, y = l[k + 1] := ⟨_, rfl⟩
      rw [← hx] at q0
      rw [← hy] at q1
      rw [← hx, ← hy] at hnext hstop
      have HN := hide hnext
      have HS := hide hstop
      have k1 : ((k : Int) + 1) < (l.length : Int) := by omega
      have a1 : (0 : Int) ≤ (k : Int) + 1 := by omega
      have a2 : (0 : Int) ≤ (k : Int) := by omega
      have a3 : (k : Int) < (l.length : Int) := by omega
      have q1' : w.cell? ⟨b, off + (k + 1), none⟩ = some (.int .i64 y) := q1
      clear hnext hstop hx hy hcl hall HCC q1
      by_cases hxy : y ≤ x
      · go_wp2_with fail
        go_region
        go_wp2_with fail
        go_ret
        exact ⟨by rw [HS.out (by omega)]; rfl, below_drewN (Below.refl _ w) (n + 1)⟩
      · go_wp2_with fail
        go_region
        go_wp2_with fail
        exact ⟨⟨k + 1, n + 1, by omega, by go_num, HN.out (by omega), by first | rfl | trivial⟩, by simp [intOf]; omega⟩
    · have hr : rises l = true := (rises_iff l).2 fun j hj => hall j hj (by omega)
      have HR := hide hr
      have k1 : ¬ ((k : Int) + 1) < (l.length : Int) := by omega
      clear hr hall HCC
      go_wp2_with fail
      go_ret
      exact ⟨by rw [HR.out]; rfl, below_drewN (Below.refl _ w) n⟩

set_option maxHeartbeats 2000000 in
theorem checkPolicy_any (m : Int) (s : Value) (p : Pol) (nv : Value) (w : World) (hp : IsInts w nv p.names) :
    Calls Try.prog 122 #[.agg #[.int .i64 m, s], .agg #[.int .i64 p.owner, nv]] w fun e w' => e = .returned (.int .i64 (polErr m p)) ∧ Below w.heap.size w w' := by
  obtain ⟨ow, names⟩ := p
  have hE : polErr m ⟨ow, names⟩ = if isOne m ow = true then (if names.length ≤ 6 then (if (names.any fun x => !isOne m x) = true then 5 else (if rises names = true then 0 else 4)) else 2) else 5 := by
    unfold polErr
    have : names.all (isOne m) = !(names.any fun x => !isOne m x) := by rw [List.any_eq_not_all_not]; simp
    simp only [this]
    cases (names.any fun x => !isOne m x) <;> simp
  simp only at hp ⊢
  have hbel : Below w.heap.size w ((w.alloc (.cells #[.int .i64 m, s] 35)).alloc (.cells #[.int .i64 ow, nv] 143)) := ((Below.refl _ w).alloc (Nat.le_refl _) _).alloc (by simp) _
  have HP := hide fun (W : World) (hb : Below w.heap.size w W) => isInts_over hp hb
  have hN := fun (W : World) (h : W.cell? ⟨w.heap.size, 0, none⟩ = some (.int .i64 m)) => isNone_any m ow w.heap.size W h
  have hK := fun (W : World) (hn : names.length ≤ 6) (hB : Below w.heap.size w W) (h : W.cell? ⟨w.heap.size, 0, none⟩ = some (.int .i64 m)) => containsInt_any 147 (.pointer (some ⟨w.heap.size, 0, none⟩)) (fun x => !isOne m x) nv names W (isInts_over hp hB) hn (hide fun i hi w1 hb => isNone_any m names[i] w.heap.size w1 (by rw [(bcell hb).1 _ _ (World.block_lt_of_cell? W _ h)]; exact h)) call58
  have hR := fun (W : World) (hn : names.length ≤ 6) (hB : Below w.heap.size w W) => rise_any nv names W (isInts_over hp hB) hn
  obtain ⟨r1, hr1⟩ : ∃ r, r = isOne m ow := ⟨_, rfl⟩
  obtain ⟨r2, hr2⟩ : ∃ r, r = names.any fun x => !isOne m x := ⟨_, rfl⟩
  obtain ⟨r3, hr3⟩ : ∃ r, r = rises names := ⟨_, rfl⟩
  rw [← hr1, ← hr2, ← hr3] at hE
  rw [← hr1] at hN
  rw [← hr2] at hK
  rw [← hr3] at hR
  have KN := hide hN
  have KK := hide hK
  have KR := hide hR
  have HE := hide hE
  obtain ⟨ao, cap, rfl, -⟩ := hp
  clear hN hK hR hE hr1 hr2 hr3
  cases r1 with
  | false =>
    go_enter Try.func122, Try.ntmps122
    go_wp2_with fail
    refine (KN.out _ (by simp [go_sem])).mono ?_
    rintro e w1 ⟨rfl, hb1⟩
    have hbel1 : Below w.heap.size w w1 := hbel.trans (hb1.mono (by simp; omega))
    go_wp2_with fail
    go_ret
    exact ⟨by rw [HE.out]; rfl, hbel1⟩
  | true =>
    go_enter Try.func122, Try.ntmps122
    go_wp2_with fail
    refine (KN.out _ (by simp [go_sem])).mono ?_
    rintro e w1 ⟨rfl, hb1⟩
    obtain ⟨hc, hf⟩ := bcell hb1
    have c0 : w1.cell? ⟨w.heap.size, 0, none⟩ = some (.int .i64 m) := by rw [hc _ _ (by simp; omega)]; simp [go_sem]
    have c1 : w1.cell? ⟨w.heap.size + 1, 1, none⟩ = some (.slice ao names.length cap) := by rw [hc _ _ (by simp)]; simp [go_sem]
    have hbel1 : Below w.heap.size w w1 := hbel.trans (hb1.mono (by simp; omega))
    clear hc hf hb1 hbel KN
    by_cases hn : names.length ≤ 6
    · go_wp2_with fail
      refine (KK.out _ hn hbel1 c0).mono ?_
      rintro e w2 ⟨rfl, hb2⟩
      have hbel2 : Below w.heap.size w w2 := hbel1.trans (hb2.mono hbel1.size)
      have d1 : w2.cell? ⟨w.heap.size + 1, 1, none⟩ = some (.slice ao names.length cap) := by rw [(bcell hb2).1 _ _ (World.block_lt_of_cell? w1 _ c1)]; exact c1
      clear c0 c1 KK
      cases r2 with
      | true =>
        go_wp2_with fail
        go_ret
        exact ⟨by rw [HE.out]; simp [hn], hbel2⟩
      | false =>
        go_wp2_with fail
        refine (KR.out _ hn hbel2).mono ?_
        rintro e w3 ⟨rfl, hb3⟩
        have hbel3 : Below w.heap.size w w3 := hbel2.trans (hb3.mono hbel2.size)
        clear d1 KR
        cases r3
        all_goals go_wp2_with fail
        all_goals go_ret
        all_goals exact ⟨by rw [HE.out]; simp [hn], hbel3⟩
    · go_wp2_with fail
      go_ret
      exact ⟨by rw [HE.out]; simp [hn], hbel1⟩

/-- the policies from one on, in memory. -/
theorem isPols_at {w : World} {v : Value} {ps : List Pol} (h : IsPols w v ps) {i : Nat} (hi : i < ps.length) : ∃ b off cap nv, v = .slice (some ⟨b, off, none⟩) ps.length cap ∧ w.cell? ⟨b, off + i * 2, none⟩ = some (.int .i64 ps[i].owner) ∧ w.cell? ⟨b, off + i * 2 + 1, none⟩ = some nv ∧ IsInts w nv ps[i].names := by
  obtain ⟨ao, cap, rfl, hc⟩ := h
  obtain ⟨b, off, rfl, hcl⟩ := hc (by rintro rfl; simp at hi)
  obtain ⟨h1, nv, h2, h3⟩ := hcl i hi
  exact ⟨b, off, cap, nv, rfl, h1, h2, h3⟩

set_option maxHeartbeats 2000000 in
theorem labPolicies_any (m : Int) (s vp : Value) (ps : List Pol) (w : World) (hp : IsPols w vp ps) :
    Calls Try.prog 89 #[.agg #[.int .i64 m, s], vp] w fun e w' => e = .returned (.int .i64 (polsErr m ps)) ∧ Below w.heap.size w w' := by
  have HP := hide hp
  obtain ⟨ao, cap, rfl, -⟩ := hp
  have hbel : Below w.heap.size w (w.alloc (.cells #[.int .i64 m, s] 35)) := (Below.refl _ w).alloc (Nat.le_refl _) _
  have hE : polsErr m ps = if ps.length ≤ 4 then firstErr m ps else 2 := rfl
  have KP := hide fun (p : Pol) (nv : Value) (W : World) (h : IsInts W nv p.names) => checkPolicy_any m s p nv W h
  by_cases hn : ps.length ≤ 4
  · rw [if_pos hn] at hE
    have HE := hide hE
    clear hE
    go_enter Try.func89, Try.ntmps89
    go_wp2_with fail
    go_loopw [13] (fun i wr => ∃ k : Nat, k ≤ ps.length ∧ i = .int .i64 k ∧ firstErr m ps = firstErr m (ps.drop k) ∧ Below w.heap.size w wr ∧ wr.cell? ⟨w.heap.size, 0, none⟩ = some (.int .i64 m) ∧ wr.cell? ⟨w.heap.size, 1, none⟩ = some s) (fun i _ => ps.length - (intOf i).toNat)
    case atStart => exact ⟨0, Nat.zero_le _, rfl, rfl, hbel, by simp [go_sem], by simp [go_sem]⟩
    case round =>
      obtain ⟨k, hk, rfl, hfe, hbw, c0, c1⟩ := hrel
      by_cases hkl : k < ps.length
      · obtain ⟨b, off, cap', nv, hve, q0, q1, q2⟩ := isPols_at (isPols_over HP.out hbw) hkl
        injection hve with e1 e2 e3
        subst e1 e3
        clear e2
        have hfd := firstErr_drop (m := m) hkl
        rw [← hfe] at hfd
        have ltb := World.block_lt_of_cell? wr _ q0
        have ltw := World.block_lt_of_cell? wr _ c0
        have hal : Below wr.heap.size wr (wr.alloc (.cells #[.int .i64 ps[k].owner, nv] 143)) := (Below.refl _ wr).alloc (Nat.le_refl _) _
        have hcall := KP.out ps[k] nv (wr.alloc (.cells #[.int .i64 ps[k].owner, nv] 143)) (isInts_over q2 hal)
        obtain ⟨r, hr⟩ : ∃ r, r = polErr m ps[k] := ⟨_, rfl⟩
        obtain ⟨ow, how⟩ : ∃ r, r = ps[k].owner := ⟨_, rfl⟩
        rw [← hr] at hfd hcall
        rw [← how] at q0 hal hcall
        obtain ⟨nl, nc, nlen, hnv⟩ : ∃ a c n, nv = .slice a n c := by obtain ⟨a, c, e, _⟩ := q2; exact ⟨a, c, _, e⟩
        subst hnv
        have HC := hide hcall
        have HF := hide hfd
        have hbw2 := hbw.trans (hal.mono hbw.size)
        clear hr how hcall hfd q2 hfe
        by_cases hr0 : r = 0
        · subst hr0
          go_wp2_with fail
          refine (HC.out).mono ?_
          rintro e w2 ⟨rfl, hb2⟩
          have hb3 := hbw2.trans (hb2.mono hbw2.size)
          have ltw' : w.heap.size < (wr.alloc (.cells #[.int .i64 ow, .slice nl nlen nc] 143)).heap.size := by simp; exact Nat.lt_succ_of_lt ltw
          have d0 : w2.cell? ⟨w.heap.size, 0, none⟩ = some (.int .i64 m) := by rw [(bcell hb2).1 _ _ ltw', (bcell hal).1 _ _ ltw]; exact c0
          have d1 : w2.cell? ⟨w.heap.size, 1, none⟩ = some s := by rw [(bcell hb2).1 _ _ ltw', (bcell hal).1 _ _ ltw]; exact c1
          clear hbw2 hb2 hal q0 q1 c0 c1 HC
          go_wp2_with fail
          exact ⟨⟨k + 1, by omega, by go_num, by rw [HF.out]; simp, hb3, d0, d1⟩, by simp [intOf]; omega⟩
        · have hne : (r != 0) = true := by simpa using hr0
          go_wp2_with fail
          refine (HC.out).mono ?_
          rintro e w2 ⟨rfl, hb2⟩
          have hb3 := hbw2.trans (hb2.mono hbw2.size)
          clear hbw2 hb2 hal q0 q1 c0 c1 HC
          go_wp2_with fail
          go_ret
          exact ⟨by rw [HE.out, HF.out]; simp [hr0], hb3⟩
      · have hke : k = ps.length := by omega
        have hz : firstErr m ps = 0 := by rw [hfe, hke, List.drop_length]; rfl
        have HZ := hide hz
        clear hz hfe c0 c1
        go_wp2_with fail
        go_ret
        exact ⟨by rw [HE.out, HZ.out]; rfl, hbw⟩
  · rw [if_neg hn] at hE
    have HE := hide hE
    clear hE
    go_enter Try.func89, Try.ntmps89
    go_wp2_with fail
    go_ret
    exact ⟨by rw [HE.out]; rfl, hbel⟩
section
variable {ops : Array Oper} {o : Oper} {a : Act} {W : World} {K : Act → World → Prop} {Q : Exit → Act → World → Prop} {E : Prop}

end

/-- four cells that lie low, and are kept. -/
def Low4 (B : Nat) (p1 p2 p3 p4 : Nat × Nat) (v1 v2 v3 v4 : Value) (W : World) : Prop :=
  W.cell? ⟨p1.1, p1.2, none⟩ = some v1 ∧ W.cell? ⟨p2.1, p2.2, none⟩ = some v2 ∧ W.cell? ⟨p3.1, p3.2, none⟩ = some v3 ∧ W.cell? ⟨p4.1, p4.2, none⟩ = some v4 ∧ B + 1 ≤ W.heap.size ∧ p1.1 < B ∧ p2.1 < B ∧ p3.1 < B ∧ p4.1 < B

theorem Low4.keep {B : Nat} {W W' : World} {p1 p2 p3 p4 : Nat × Nat} {v1 v2 v3 v4 : Value} (h : Low4 B p1 p2 p3 p4 v1 v2 v3 v4 W) (hb : Below B W W') : Low4 B p1 p2 p3 p4 v1 v2 v3 v4 W' := by
  have hc : ∀ b o, b < B → W'.cell? ⟨b, o, none⟩ = W.cell? ⟨b, o, none⟩ := fun b o h => hb.cell (p := ⟨b, o, none⟩) h
  obtain ⟨k1, k2, k3, k4, k6, h1, h2, h3, h4⟩ := h
  exact ⟨by rw [hc _ _ h1]; exact k1, by rw [hc _ _ h2]; exact k2, by rw [hc _ _ h3]; exact k3, by rw [hc _ _ h4]; exact k4, Nat.le_trans k6 hb.size, h1, h2, h3, h4⟩
structure Lab where
  r : List Pol
  w : List Pol
def labErr (m : Int) (b : Lab) : Int := if polsErr m b.r = 0 then polsErr m b.w else polsErr m b.r

def noLev : Lev := ⟨[], []⟩
def lChk (m : Int) (gs : List (Int × Int)) (b : Lab) : Int := if chkErr m gs = 0 then labErr m b else chkErr m gs
def CheckOk : Prop := ∀ (m : Int) (v : Value) (gs : List (Int × Int)) (pr pw : Value) (bl : Lab) (w : World), IsGrants w v gs → IsPols w pr bl.r → IsPols w pw bl.w →
  Calls Try.prog 50 #[.agg #[.int .i64 m, v], .agg #[pr, pw]] w fun e w' => e = .returned (.int .i64 (lChk m gs bl)) ∧ Below w.heap.size w w'
theorem pols_form {w : World} {v : Value} {ps : List Pol} (h : IsPols w v ps) : ∃ a n c, v = .slice a n c := by
  obtain ⟨a, c, e, _⟩ := h
  exact ⟨a, _, c, e⟩
theorem grants_form {w : World} {v : Value} {gs : List (Int × Int)} (h : IsGrants w v gs) : ∃ a n c, v = .slice a n c := by
  obtain ⟨a, c, e, _⟩ := h
  exact ⟨a, _, c, e⟩

set_option maxHeartbeats 2000000 in
theorem checkOk : CheckOk := by
  intro m v gs pr pw bl w hv hp hq
  have hbel : Below w.heap.size w ((w.alloc (.cells #[.int .i64 m, v] 35)).alloc (.cells #[pr, pw] 102)) := ((Below.refl _ w).alloc (Nat.le_refl _) _).alloc (by simp) _
  have hC := fun (W : World) (hB : Below w.heap.size w W) => check_any m v gs W (isGrants_over hv hB)
  have hP := fun (W : World) (hB : Below w.heap.size w W) => labPolicies_any m v pr bl.r W (isPols_over hp hB)
  have hQ := fun (W : World) (hB : Below w.heap.size w W) => labPolicies_any m v pw bl.w W (isPols_over hq hB)
  have hE : lChk m gs bl = if chkErr m gs = 0 then (if polsErr m bl.r = 0 then polsErr m bl.w else polsErr m bl.r) else chkErr m gs := rfl
  obtain ⟨r, hr⟩ : ∃ r, r = chkErr m gs := ⟨_, rfl⟩
  obtain ⟨p1, hp1⟩ : ∃ r, r = polsErr m bl.r := ⟨_, rfl⟩
  obtain ⟨p2, hp2⟩ : ∃ r, r = polsErr m bl.w := ⟨_, rfl⟩
  rw [← hr, ← hp1, ← hp2] at hE
  rw [← hr] at hC
  rw [← hp1] at hP
  rw [← hp2] at hQ
  obtain ⟨va, vn, vc, rfl⟩ := grants_form hv
  obtain ⟨pa, pn, pc, rfl⟩ := pols_form hp
  obtain ⟨qa, qn, qc, rfl⟩ := pols_form hq
  have KC := hide hC
  have KP := hide hP
  have KQ := hide hQ
  have HE := hide hE
  clear hC hP hQ hE hr hp1 hp2 hv hp hq
  go_enter Try.func50, Try.ntmps50
  go_wp2_with fail
  refine (KC.out _ hbel).mono ?_
  rintro e w1 ⟨rfl, hb1⟩
  obtain ⟨hc, hf⟩ := bcell hb1
  have c0 : w1.cell? ⟨w.heap.size, 0, none⟩ = some (.int .i64 m) := by rw [hc _ _ (by simp; omega)]; simp [go_sem]
  have c1 : w1.cell? ⟨w.heap.size, 1, none⟩ = some (.slice va vn vc) := by rw [hc _ _ (by simp; omega)]; simp [go_sem]
  have c2 : w1.cell? ⟨w.heap.size + 1, 0, none⟩ = some (.slice pa pn pc) := by rw [hc _ _ (by simp)]; simp [go_sem]
  have c3 : w1.cell? ⟨w.heap.size + 1, 1, none⟩ = some (.slice qa qn qc) := by rw [hc _ _ (by simp)]; simp [go_sem]
  have hB1 : Below w.heap.size w w1 := hbel.trans (hb1.mono (by simp; omega))
  clear hc hf hb1 hbel KC
  by_cases hr0 : r = 0
  · subst hr0
    go_wp2_with fail
    refine (KP.out _ hB1).mono ?_
    rintro e w2 ⟨rfl, hb2⟩
    have ltw := World.block_lt_of_cell? w1 _ c0
    have ltp := World.block_lt_of_cell? w1 _ c2
    obtain ⟨hc, hf⟩ := bcell hb2
    have d0 : w2.cell? ⟨w.heap.size, 0, none⟩ = some (.int .i64 m) := by rw [hc _ _ ltw]; exact c0
    have d1 : w2.cell? ⟨w.heap.size, 1, none⟩ = some (.slice va vn vc) := by rw [hc _ _ ltw]; exact c1
    have d3 : w2.cell? ⟨w.heap.size + 1, 1, none⟩ = some (.slice qa qn qc) := by rw [hc _ _ ltp]; exact c3
    have hB2 : Below w.heap.size w w2 := hB1.trans (hb2.mono hB1.size)
    clear hc hf hb2 hB1 c0 c1 c2 c3 KP
    by_cases hp0 : p1 = 0
    · subst hp0
      go_wp2_with fail
      refine (KQ.out _ hB2).mono ?_
      rintro e w3 ⟨rfl, hb3⟩
      have hB3 : Below w.heap.size w w3 := hB2.trans (hb3.mono hB2.size)
      clear d0 d1 d3 hb3 KQ
      go_wp2_with fail
      go_ret
      exact ⟨by rw [HE.out]; simp, hB3⟩
    · have hne : (p1 != 0) = true := by simpa using hp0
      go_wp2_with fail
      go_ret
      exact ⟨by rw [HE.out]; simp [hp0], hB2⟩
  · have hne : (r != 0) = true := by simpa using hr0
    go_wp2_with fail
    go_ret
    exact ⟨by rw [HE.out]; simp [hr0], hB1⟩
end Go.Proofs.Ytcbbjjenkommeaa
namespace Go.Proofs.Ytcbbjjenkommeaa.Ex
open Go.RowKit
set_option linter.unusedVariables false
/-- a command. -/
def sD (kd va ot : Int) (e : D) (ags ts es : List D) : D := .agg [.lit (.int .i64 kd), .lit (.int .i64 va), .lit (.int .i64 ot), e, .slice ags [], .slice ts [], .slice es []]
def sKind : D → Int
  | .agg (.lit (.int _ n) :: _) => n
  | _ => 0
def sVar : D → Int
  | .agg (_ :: .lit (.int _ n) :: _) => n
  | _ => 0
def sOther : D → Int
  | .agg (_ :: _ :: .lit (.int _ n) :: _) => n
  | _ => 0
def sExpr : D → D
  | .agg (_ :: _ :: _ :: e :: _) => e
  | d => d
def sArgs : D → List D
  | .agg (_ :: _ :: _ :: _ :: .slice l _ :: _) => l
  | _ => []
def sThen : D → List D
  | .agg (_ :: _ :: _ :: _ :: _ :: .slice l _ :: _) => l
  | _ => []
def sElse : D → List D
  | .agg (_ :: _ :: _ :: _ :: _ :: _ :: .slice l _ :: _) => l
  | _ => []

/-- a command in nine cells, so deep at most; its expressions so deep at most. -/
def RS (w : World) (K : Nat) : Nat → List Value → D → Prop
  | 0, _, _ => False
  | k + 1, cs, d => ∃ (kd va ot : Int) (x0 x1 x2 : Value) (e : D) (vA : Value) (ags : List D) (vT : Value) (ts : List D) (vE : Value) (es : List D),
      cs = [.int .i64 kd, .int .i64 va, .int .i64 ot, x0, x1, x2, vA, vT, vE] ∧ d = sD kd va ot e ags ts es ∧ In64 kd ∧ In64 va ∧ In64 ot ∧ RX w K [x0, x1, x2] e ∧ XS 3 (RX w K) w vA ags ∧ XS 9 (RS w K k) w vT ts ∧ XS 9 (RS w K k) w vE es

theorem RS.mono {w w' : World} {K : Nat} (hw : ∀ a u, w.cell? a = some u → w'.cell? a = some u) :
    ∀ (k m : Nat) (cs : List Value) (d : D), k ≤ m → RS w K k cs d → RS w' K m cs d := by
  intro k
  induction k with
  | zero => intro m cs d _ h; exact h.elim
  | succ k ih =>
    intro m cs d hkm h
    obtain ⟨m', rfl⟩ : ∃ m', m = m' + 1 := ⟨m - 1, by omega⟩
    obtain ⟨kd, va, ot, x0, x1, x2, e, vA, ags, vT, ts, vE, es, hcs, hd, h1, h2, h3, he, hA, hT, hE⟩ := h
    exact ⟨kd, va, ot, x0, x1, x2, e, vA, ags, vT, ts, vE, es, hcs, hd, h1, h2, h3, RX.mono hw K K _ e (Nat.le_refl _) he,
      hA.mono hw (fun cs d _ hh => RX.mono hw K K cs d (Nat.le_refl _) hh), hT.mono hw (fun cs d _ hh => ih m' cs d (by omega) hh), hE.mono hw (fun cs d _ hh => ih m' cs d (by omega) hh)⟩

/-- commands one behind the other. -/
def StmtsAt (w : World) (K k : Nat) (v : Value) (l : List D) : Prop := XS 9 (RS w K k) w v l
theorem StmtsAt.over {w w' : World} {K k : Nat} {v : Value} {l : List D} (h : StmtsAt w K k v l) (hb : Below w.heap.size w w') : StmtsAt w' K k v l :=
  XS.mono h (cell_over hb) (fun cs d _ hh => RS.mono (cell_over hb) k k cs d (Nat.le_refl _) hh)
theorem ArgsAt.over {w w' : World} {K : Nat} {v : Value} {l : List D} (h : XS 3 (RX w K) w v l) (hb : Below w.heap.size w w') : XS 3 (RX w' K) w' v l :=
  XS.mono h (cell_over hb) (fun cs d _ hh => RX.mono (cell_over hb) K K cs d (Nat.le_refl _) hh)

structure FnD where
  ps : List Int
  body : List D
  res : D
def fnAt (fs : List FnD) (c : Int) : FnD := fs.getD c.toNat ⟨[], [], .agg []⟩

/-- numbers of a function's parameters: how long the list may be. -/
def PsOk (v : Value) (ps : List Int) : Prop := ps.length ≤ maxLen ∧ ∃ pa pc, v = .slice pa ps.length pc ∧ ps.length ≤ pc ∧ pc ≤ maxLen

/-- functions, five cells each. -/
def FnsAt (w : World) (K k : Nat) (v : Value) (fs : List FnD) : Prop :=
  fs.length ≤ maxLen ∧ ∃ ao cap, v = .slice ao fs.length cap ∧ (fs ≠ [] → ∃ b off, ao = some ⟨b, off, none⟩ ∧ ∀ i (h : i < fs.length), ∃ (vP vB x0 x1 x2 : Value),
    w.cell? ⟨b, off + i * 5, none⟩ = some vP ∧ w.cell? ⟨b, off + i * 5 + 1, none⟩ = some vB ∧ w.cell? ⟨b, off + i * 5 + 2, none⟩ = some x0 ∧ w.cell? ⟨b, off + i * 5 + 3, none⟩ = some x1 ∧ w.cell? ⟨b, off + i * 5 + 4, none⟩ = some x2 ∧
    IsInts w vP fs[i].ps ∧ PsOk vP fs[i].ps ∧ StmtsAt w K k vB fs[i].body ∧ RX w K [x0, x1, x2] fs[i].res)
theorem FnsAt.over {w w' : World} {K k : Nat} {v : Value} {l : List FnD} (h : FnsAt w K k v l) (hb : Below w.heap.size w w') : FnsAt w' K k v l := by
  obtain ⟨hm, ao, cap, hv, hc⟩ := h
  refine ⟨hm, ao, cap, hv, fun hne => ?_⟩
  obtain ⟨b, off, hao, hel⟩ := hc hne
  refine ⟨b, off, hao, fun i hi => ?_⟩
  obtain ⟨vP, vB, x0, x1, x2, h0, h1, h2, h3, h4, hp, hpl, hs, hx⟩ := hel i hi
  exact ⟨vP, vB, x0, x1, x2, cell_over hb _ _ h0, cell_over hb _ _ h1, cell_over hb _ _ h2, cell_over hb _ _ h3, cell_over hb _ _ h4, hp.over hb, hpl, hs.over hb, hx.over hb⟩

/-- labels, two cells each. -/
def LabsAt (w : World) (v : Value) (ls : List Lab) : Prop :=
  ls.length ≤ maxLen ∧ ∃ ao cap, v = .slice ao ls.length cap ∧ (ls ≠ [] → ∃ b off, ao = some ⟨b, off, none⟩ ∧ ∀ i (h : i < ls.length), ∃ (pr pw : Value),
    w.cell? ⟨b, off + i * 2, none⟩ = some pr ∧ w.cell? ⟨b, off + i * 2 + 1, none⟩ = some pw ∧ IsPols w pr ls[i].r ∧ IsPols w pw ls[i].w)
theorem LabsAt.over {w w' : World} {v : Value} {l : List Lab} (h : LabsAt w v l) (hb : Below w.heap.size w w') : LabsAt w' v l := by
  obtain ⟨hm, ao, cap, hv, hc⟩ := h
  refine ⟨hm, ao, cap, hv, fun hne => ?_⟩
  obtain ⟨b, off, hao, hel⟩ := hc hne
  refine ⟨b, off, hao, fun i hi => ?_⟩
  obtain ⟨pr, pw, h0, h1, hr, hw⟩ := hel i hi
  exact ⟨pr, pw, cell_over hb _ _ h0, cell_over hb _ _ h1, isPols_over hr hb, isPols_over hw hb⟩

/-- variables, three cells each. -/
def VarsAt (w : World) (v : Value) (ls : List (Bool × Lab)) : Prop :=
  ls.length ≤ maxLen ∧ ∃ ao cap, v = .slice ao ls.length cap ∧ (ls ≠ [] → ∃ b off, ao = some ⟨b, off, none⟩ ∧ ∀ i (h : i < ls.length), ∃ (pr pw : Value),
    w.cell? ⟨b, off + i * 3, none⟩ = some (.bool ls[i].1) ∧ w.cell? ⟨b, off + i * 3 + 1, none⟩ = some pr ∧ w.cell? ⟨b, off + i * 3 + 2, none⟩ = some pw ∧ IsPols w pr ls[i].2.r ∧ IsPols w pw ls[i].2.w)
theorem VarsAt.over {w w' : World} {v : Value} {l : List (Bool × Lab)} (h : VarsAt w v l) (hb : Below w.heap.size w w') : VarsAt w' v l := by
  obtain ⟨hm, ao, cap, hv, hc⟩ := h
  refine ⟨hm, ao, cap, hv, fun hne => ?_⟩
  obtain ⟨b, off, hao, hel⟩ := hc hne
  refine ⟨b, off, hao, fun i hi => ?_⟩
  obtain ⟨pr, pw, h0, h1, h2, hr, hw⟩ := hel i hi
  exact ⟨pr, pw, cell_over hb _ _ h0, cell_over hb _ _ h1, cell_over hb _ _ h2, isPols_over hr hb, isPols_over hw hb⟩

def gaveW (why : Int) : Ending := .panicked [{ v := .iface 162 (.agg #[.int .i64 0, .int .i64 why]), recovered := false }]

set_option maxHeartbeats 1000000 in
theorem mustAt_no (why : Int) (w : World) : Calls Try.prog 136 #[.int .i64 0, .bool false, .int .i64 why] w fun e w' => e = gaveW why ∧ w' = w := by
  unfold gaveW
  go_enter Try.func136, Try.ntmps136
  go_wp2_with fail
  exact ⟨rfl, rfl, rfl⟩

set_option maxHeartbeats 1000000 in
theorem must_no (why : Int) (w : World) : Calls Try.prog 108 #[.bool false, .int .i64 why] w fun e w' => e = gaveW why ∧ w' = w := by
  have K := hide fun W => mustAt_no why W
  unfold gaveW at K ⊢
  go_enter Try.func108, Try.ntmps108
  go_wp2_with fail
  refine (K.out _).mono ?_
  rintro e w1 ⟨rfl, rfl⟩
  go_wp2_with fail
  exact ⟨rfl, rfl, rfl⟩

/-- it goes on, and something holds then; or it gives up. -/
def Must (ok : Bool) (why : Int) (w : World) (e : Ending) (w' : World) : Prop := (ok = true ∧ e = .returned (.tuple #[]) ∨ ok = false ∧ e = gaveW why) ∧ w' = w

theorem must_any (ok : Bool) (why : Int) (w : World) : Calls Try.prog 108 #[.bool ok, .int .i64 why] w (Must ok why w) := by
  cases ok with
  | true => exact (must_ok why w).mono fun e w' h => ⟨Or.inl ⟨rfl, h.1⟩, h.2⟩
  | false => exact (must_no why w).mono fun e w' h => ⟨Or.inr ⟨rfl, h.1⟩, h.2⟩

set_option maxHeartbeats 1000000 in
theorem pass_any (why : Int) (w : World) : Calls Try.prog 107 #[.int .i64 why] w (Must (why == 0) why w) := by
  by_cases h : why = 0
  · subst h
    exact (pass_ok w).mono fun e w' h => ⟨Or.inl ⟨rfl, h.1⟩, h.2⟩
  · have hb : (why == 0) = false := by simpa using h
    have K := hide fun W => must_no why W
    have H : Calls Try.prog 107 #[.int .i64 why] w fun e w' => e = gaveW why ∧ w' = w := by
      unfold gaveW at K ⊢
      go_enter Try.func107, Try.ntmps107
      go_wp2_with fail
      refine (K.out _).mono ?_
      rintro e w1 ⟨rfl, rfl⟩
      go_wp2_with fail
      exact ⟨rfl, rfl, rfl⟩
    exact H.mono fun e w' h => ⟨Or.inr ⟨hb, h.1⟩, h.2⟩
@[simp] theorem sKind_s (kd va ot : Int) (e : D) (ags ts es : List D) : sKind (sD kd va ot e ags ts es) = kd := rfl
@[simp] theorem sVar_s (kd va ot : Int) (e : D) (ags ts es : List D) : sVar (sD kd va ot e ags ts es) = va := rfl
@[simp] theorem sOther_s (kd va ot : Int) (e : D) (ags ts es : List D) : sOther (sD kd va ot e ags ts es) = ot := rfl
@[simp] theorem sExpr_s (kd va ot : Int) (e : D) (ags ts es : List D) : sExpr (sD kd va ot e ags ts es) = e := rfl
@[simp] theorem sArgs_s (kd va ot : Int) (e : D) (ags ts es : List D) : sArgs (sD kd va ot e ags ts es) = ags := rfl
@[simp] theorem sThen_s (kd va ot : Int) (e : D) (ags ts es : List D) : sThen (sD kd va ot e ags ts es) = ts := rfl
@[simp] theorem sElse_s (kd va ot : Int) (e : D) (ags ts es : List D) : sElse (sD kd va ot e ags ts es) = es := rfl

/-- the nine cells of a command. -/
abbrev sC (kd va ot ek en : Int) (xa : Option Addr) (xl xc : Nat) (aa : Option Addr) (al ac : Nat) (ta : Option Addr) (tl tc : Nat) (ea : Option Addr) (el ec : Nat) : List Value :=
  [.int .i64 kd, .int .i64 va, .int .i64 ot, .int .i64 ek, .int .i64 en, .slice xa xl xc, .slice aa al ac, .slice ta tl tc, .slice ea el ec]

theorem RS.form {w : World} {K k : Nat} {cs : List Value} {d : D} (h : RS w K (k + 1) cs d) :
    ∃ (ek en : Int) (xa : Option Addr) (xl xc : Nat) (aa : Option Addr) (ac : Nat) (ta : Option Addr) (tc : Nat) (ea : Option Addr) (ec : Nat),
      cs = sC (sKind d) (sVar d) (sOther d) ek en xa xl xc aa (sArgs d).length ac ta (sThen d).length tc ea (sElse d).length ec ∧ In64 (sKind d) ∧ In64 (sVar d) ∧ In64 (sOther d) ∧
      RX w K [.int .i64 ek, .int .i64 en, .slice xa xl xc] (sExpr d) ∧ XS 3 (RX w K) w (.slice aa (sArgs d).length ac) (sArgs d) ∧ StmtsAt w K k (.slice ta (sThen d).length tc) (sThen d) ∧ StmtsAt w K k (.slice ea (sElse d).length ec) (sElse d) ∧
      ek = kindOf (sExpr d) ∧ en = numOf (sExpr d) ∧ xl = (argsOf (sExpr d)).length := by
  obtain ⟨kd, va, ot, x0, x1, x2, e, vA, ags, vT, ts, vE, es, rfl, rfl, h1, h2, h3, he, hA, hT, hE⟩ := h
  obtain ⟨xa, xc, hx⟩ := he.form
  simp only [List.cons.injEq, and_true] at hx
  obtain ⟨rfl, rfl, rfl⟩ := hx
  obtain ⟨aa, ac, rfl, -⟩ := hA.2
  obtain ⟨ta, tc, rfl, -⟩ := hT.2
  obtain ⟨ea, ec, rfl, -⟩ := hE.2
  exact ⟨_, _, xa, _, xc, aa, ac, ta, tc, ea, ec, rfl, h1, h2, h3, he, hA, hT, hE, rfl, rfl, rfl⟩

def cntS : Nat → D → Nat
  | 0, _ => 0
  | k + 1, d => 1 + ((sThen d).map (cntS k)).sum + ((sElse d).map (cntS k)).sum
def cnts (k : Nat) (l : List D) : Nat := (l.map (cntS k)).sum
theorem cnts_take {k : Nat} {l : List D} {j : Nat} (hj : j < l.length) : cnts k (l.take (j + 1)) = cnts k (l.take j) + cntS k l[j] := by
  unfold cnts
  rw [List.take_succ_eq_append_getElem hj, List.map_append, List.sum_append]
  simp
theorem StmtsAt.zero {w : World} {K : Nat} {v : Value} {l : List D} (h : StmtsAt w K 0 v l) : l = [] := by
  cases l with
  | nil => rfl
  | cons d l =>
    obtain ⟨-, ao, cap, -, hc⟩ := h
    obtain ⟨b, off, -, hel⟩ := hc (by simp)
    obtain ⟨cs, -, -, hr⟩ := hel 0 d rfl
    exact hr.elim
def cntF (k : Nat) (fs : List FnD) : Nat := (fs.map fun f => cnts k f.body).sum
theorem cntF_take {k : Nat} {l : List FnD} {j : Nat} (hj : j < l.length) : cntF k (l.take (j + 1)) = cntF k (l.take j) + cnts k l[j].body := by
  unfold cntF
  rw [List.take_succ_eq_append_getElem hj, List.map_append, List.sum_append]
  simp
set_option maxHeartbeats 1000000 in
theorem shapeOf1 (w : World) : Calls Try.prog 152 #[.int .i64 1] w fun e w' => e = .returned (.tuple #[.agg #[.bool true, .bool false, .bool true, .bool false, .bool false, .bool false], .bool true]) ∧ Below w.heap.size w w' := by
  go_enter Try.func152, Try.ntmps152
  go_wp2_with fail
  exact bodyPost_ret (v := .tuple #[.agg #[.bool true, .bool false, .bool true, .bool false, .bool false, .bool false], .bool true]) (by simp [results, Try.results152, go_sem]) rfl ⟨rfl, (Below.refl _ w).alloc (Nat.le_refl _) _⟩

set_option maxHeartbeats 1000000 in
theorem shapeOf2 (w : World) : Calls Try.prog 152 #[.int .i64 2] w fun e w' => e = .returned (.tuple #[.agg #[.bool true, .bool true, .bool false, .bool true, .bool false, .bool false], .bool true]) ∧ Below w.heap.size w w' := by
  go_enter Try.func152, Try.ntmps152
  go_wp2_with fail
  exact bodyPost_ret (v := .tuple #[.agg #[.bool true, .bool true, .bool false, .bool true, .bool false, .bool false], .bool true]) (by simp [results, Try.results152, go_sem]) rfl ⟨rfl, (Below.refl _ w).alloc (Nat.le_refl _) _⟩

set_option maxHeartbeats 1000000 in
theorem shapeOf3 (w : World) : Calls Try.prog 152 #[.int .i64 3] w fun e w' => e = .returned (.tuple #[.agg #[.bool true, .bool true, .bool false, .bool false, .bool false, .bool false], .bool true]) ∧ Below w.heap.size w w' := by
  go_enter Try.func152, Try.ntmps152
  go_wp2_with fail
  exact bodyPost_ret (v := .tuple #[.agg #[.bool true, .bool true, .bool false, .bool false, .bool false, .bool false], .bool true]) (by simp [results, Try.results152, go_sem]) rfl ⟨rfl, (Below.refl _ w).alloc (Nat.le_refl _) _⟩

set_option maxHeartbeats 1000000 in
theorem shapeOf4 (w : World) : Calls Try.prog 152 #[.int .i64 4] w fun e w' => e = .returned (.tuple #[.agg #[.bool false, .bool true, .bool true, .bool false, .bool false, .bool false], .bool true]) ∧ Below w.heap.size w w' := by
  go_enter Try.func152, Try.ntmps152
  go_wp2_with fail
  exact bodyPost_ret (v := .tuple #[.agg #[.bool false, .bool true, .bool true, .bool false, .bool false, .bool false], .bool true]) (by simp [results, Try.results152, go_sem]) rfl ⟨rfl, (Below.refl _ w).alloc (Nat.le_refl _) _⟩

set_option maxHeartbeats 1000000 in
theorem shapeOf5 (w : World) : Calls Try.prog 152 #[.int .i64 5] w fun e w' => e = .returned (.tuple #[.agg #[.bool true, .bool false, .bool true, .bool false, .bool false, .bool false], .bool true]) ∧ Below w.heap.size w w' := by
  go_enter Try.func152, Try.ntmps152
  go_wp2_with fail
  exact bodyPost_ret (v := .tuple #[.agg #[.bool true, .bool false, .bool true, .bool false, .bool false, .bool false], .bool true]) (by simp [results, Try.results152, go_sem]) rfl ⟨rfl, (Below.refl _ w).alloc (Nat.le_refl _) _⟩

set_option maxHeartbeats 1000000 in
theorem shapeOf6 (w : World) : Calls Try.prog 152 #[.int .i64 6] w fun e w' => e = .returned (.tuple #[.agg #[.bool true, .bool false, .bool true, .bool false, .bool false, .bool false], .bool true]) ∧ Below w.heap.size w w' := by
  go_enter Try.func152, Try.ntmps152
  go_wp2_with fail
  exact bodyPost_ret (v := .tuple #[.agg #[.bool true, .bool false, .bool true, .bool false, .bool false, .bool false], .bool true]) (by simp [results, Try.results152, go_sem]) rfl ⟨rfl, (Below.refl _ w).alloc (Nat.le_refl _) _⟩

set_option maxHeartbeats 1000000 in
theorem shapeOf7 (w : World) : Calls Try.prog 152 #[.int .i64 7] w fun e w' => e = .returned (.tuple #[.agg #[.bool false, .bool false, .bool true, .bool false, .bool true, .bool true], .bool true]) ∧ Below w.heap.size w w' := by
  go_enter Try.func152, Try.ntmps152
  go_wp2_with fail
  exact bodyPost_ret (v := .tuple #[.agg #[.bool false, .bool false, .bool true, .bool false, .bool true, .bool true], .bool true]) (by simp [results, Try.results152, go_sem]) rfl ⟨rfl, (Below.refl _ w).alloc (Nat.le_refl _) _⟩

set_option maxHeartbeats 1000000 in
theorem shapeOf8 (w : World) : Calls Try.prog 152 #[.int .i64 8] w fun e w' => e = .returned (.tuple #[.agg #[.bool false, .bool false, .bool true, .bool false, .bool true, .bool false], .bool true]) ∧ Below w.heap.size w w' := by
  go_enter Try.func152, Try.ntmps152
  go_wp2_with fail
  exact bodyPost_ret (v := .tuple #[.agg #[.bool false, .bool false, .bool true, .bool false, .bool true, .bool false], .bool true]) (by simp [results, Try.results152, go_sem]) rfl ⟨rfl, (Below.refl _ w).alloc (Nat.le_refl _) _⟩

set_option maxHeartbeats 1000000 in
theorem shapeOfNone (k : Int) (hk : ¬ (1 ≤ k ∧ k ≤ 8)) (w : World) : Calls Try.prog 152 #[.int .i64 k] w fun e w' => e = .returned (.tuple #[.agg #[.bool false, .bool false, .bool false, .bool false, .bool false, .bool false], .bool false]) ∧ Below w.heap.size w w' := by
  have b1 : (k == 1) = false := by simp; omega
  have b2 : (k == 2) = false := by simp; omega
  have b3 : (k == 3) = false := by simp; omega
  have b4 : (k == 4) = false := by simp; omega
  have b5 : (k == 5) = false := by simp; omega
  have b6 : (k == 6) = false := by simp; omega
  have b7 : (k == 7) = false := by simp; omega
  have b8 : (k == 8) = false := by simp; omega
  clear hk
  go_enter Try.func152, Try.ntmps152
  go_wp2_with fail
  exact bodyPost_ret (v := .tuple #[.agg #[.bool false, .bool false, .bool false, .bool false, .bool false, .bool false], .bool false]) (by simp [results, Try.results152, go_sem]) rfl ⟨rfl, (Below.refl _ w).alloc (Nat.le_refl _) _⟩

set_option maxHeartbeats 1000000 in
set_option maxRecDepth 100000 in
theorem others_any (k : Int) (funcs : Int) (m : Int) (ga : Option Addr) (gn gc : Nat) (sa : Option Addr) (sn sc : Nat) (ya : Option Addr) (yn yc : Nat) (oa : Option Addr) (on oc : Nat) (va : Option Addr) (vn vc : Nat) (fa : Option Addr) (fn fc : Nat) (ba : Option Addr) (bn bc : Nat) (w : World) : Calls Try.prog 153 #[.agg #[.int .i64 m, .slice ga gn gc, .slice sa sn sc, .slice ya yn yc, .slice oa on oc, .slice va vn vc, .slice fa fn fc, .slice ba bn bc], .int .i64 k, .int .i64 funcs] w fun e w' => e = .returned (.int .i64 (if k = 2 then funcs else if k = 3 then yn else on)) ∧ Below w.heap.size w w' := by
  have hbel : Below w.heap.size w (w.alloc (.cells #[.int .i64 m, .slice ga gn gc, .slice sa sn sc, .slice ya yn yc, .slice oa on oc, .slice va vn vc, .slice fa fn fc, .slice ba bn bc] 125)) := (Below.refl _ w).alloc (Nat.le_refl _) _
  by_cases h2 : k = 2
  · subst h2
    go_enter Try.func153, Try.ntmps153
    go_wp2_with fail
    go_ret
    exact ⟨rfl, hbel⟩
  · by_cases h3 : k = 3
    · subst h3
      go_enter Try.func153, Try.ntmps153
      go_wp2_with fail
      go_ret
      exact ⟨rfl, hbel⟩
    · rw [if_neg h2, if_neg h3]
      go_enter Try.func153, Try.ntmps153
      go_wp2_with fail
      go_ret
      exact ⟨rfl, hbel⟩
/-- a command that may be done: by itself. -/
def okS1 (K : Nat) (nv ni no : Nat) (funcs : Int) (fs : List FnD) (d : D) : Prop :=
  (1 ≤ sKind d ∧ sKind d ≤ 8) ∧ ((sKind d = 1 ∨ sKind d = 2 ∨ sKind d = 3 ∨ sKind d = 5 ∨ sKind d = 6) → 0 ≤ sVar d ∧ sVar d < nv) ∧
  (sKind d = 2 → (0 ≤ sOther d ∧ sOther d < funcs) ∧ (∀ f, fs[(sOther d).toNat]? = some f → f.ps.length = (sArgs d).length) ∧ ∀ a ∈ sArgs d, checkX nv K a = 0) ∧
  (sKind d = 3 → 0 ≤ sOther d ∧ sOther d < ni) ∧ ((sKind d = 1 ∨ 4 ≤ sKind d) → checkX nv K (sExpr d) = 0) ∧ ((sKind d = 2 ∨ sKind d = 3) → kindOf (sExpr d) = 0 ∧ argsOf (sExpr d) = []) ∧ (sKind d = 4 → 0 ≤ sOther d ∧ sOther d < no)
/-- commands that may be done, with those in them. -/
def okS (K : Nat) (nv ni no : Nat) (funcs : Int) (fs : List FnD) : Nat → D → Prop
  | 0, _ => False
  | k + 1, d => okS1 K nv ni no funcs fs d ∧ (∀ s ∈ sThen d, okS K nv ni no funcs fs k s) ∧ ∀ s ∈ sElse d, okS K nv ni no funcs fs k s
theorem FnsAt.mono {w : World} {K k m : Nat} {v : Value} {l : List FnD} (h : FnsAt w K k v l) (hkm : k ≤ m) : FnsAt w K m v l := by
  obtain ⟨hm, ao, cap, hv, hc⟩ := h
  refine ⟨hm, ao, cap, hv, fun hne => ?_⟩
  obtain ⟨b, off, hao, hel⟩ := hc hne
  refine ⟨b, off, hao, fun i hi => ?_⟩
  obtain ⟨vP, vB, x0, x1, x2, h0, h1, h2, h3, h4, hp, hpl, hs, hx⟩ := hel i hi
  exact ⟨vP, vB, x0, x1, x2, h0, h1, h2, h3, h4, hp, hpl, XS.mono hs (fun _ _ hh => hh) (fun cs d _ hh => RS.mono (fun _ _ q => q) k m cs d hkm hh), hx⟩
theorem IsInts.prefix {w : World} {ao : Option Addr} {cap : Nat} {vs : List Int} (h : IsInts w (.slice ao vs.length cap) vs) {i : Nat} (hi : i ≤ vs.length) (c : Nat) : IsInts w (.slice ao i c) (vs.take i) := by
  obtain ⟨a2, c2, he, hc⟩ := h
  injection he with e1 e2 e3
  subst e1
  refine ⟨ao, c, by simp [Nat.min_eq_left hi], fun hne => ?_⟩
  obtain ⟨b, off, hao, hel⟩ := hc (by rintro rfl; simp at hne)
  refine ⟨b, off, hao, fun j hj => ?_⟩
  have hj2 : j < vs.length := by simp at hj; omega
  rw [List.getElem_take]
  exact hel j hj2

/-- a function that may be called, with so many ahead of it. -/
def okF (K : Nat) (nv ni no : Nat) (ahead : Int) (fs : List FnD) (k : Nat) (f : FnD) : Prop :=
  f.ps.length ≤ 4 ∧ (∀ p ∈ f.ps, 0 ≤ p ∧ p < nv) ∧ (∀ s ∈ f.body, okS K nv ni no ahead fs k s) ∧ checkX nv K f.res = 0
abbrev Ev4 := Int × Int × Int × Int
/-- what one who watches holds: levels of variables, of places. -/
structure WSt where
  vs : List Lev
  ps : List Lev
/-- what one who watches says of a moment (its kind, the command's number, how deep, the command), and what it holds then. -/
abbrev Ob := Nat → Int → Nat → D → WSt → Bool × WSt
def obAll : Ob := fun _ _ _ _ s => (true, s)
structure RSt where
  ev : List Ev4
  vars : List Int
  taken : List Int
  steps : Nat
  en : Int
  sp : Int
  o : WSt

def RSt.step (st : RSt) : RSt := { st with steps := st.steps + 1 }
def RSt.out (st : RSt) : RSt := { st with en := 2 }
def RSt.setv (st : RSt) (v x : Int) : RSt := { st with vars := st.vars.set v.toNat x }
def RSt.tell (st : RSt) (e : Ev4) : RSt := { st with ev := st.ev ++ [e] }
def RSt.took (st : RSt) (c : Int) : RSt := { st with taken := st.taken.set c.toNat (st.taken.getD c.toNat 0 + 1) }
def RSt.held (st : RSt) (o : WSt) : RSt := { st with o := o }
def RSt.stop (st : RSt) (a : Int) (o : WSt) : RSt := { st with o := o, en := 3, sp := a }
def nextX (ins : List (List Int)) (st : RSt) (c : Int) : Int := (ins.getD c.toNat []).getD (st.taken.getD c.toNat 0).toNat 0
def setAll (vs : List Int) (l : List (Int × Int)) : List Int := l.foldl (fun vs q => vs.set q.1.toNat q.2) vs

/-- go on, if there was fuel, and none stopped it. -/
def contR (r : Bool × RSt) (f : RSt → Bool × RSt) : Bool × RSt := if r.1 = true then f r.2 else r
/-- may it go on? -/
def passR (ob : Ob) (kind : Nat) (a : Int) (dp : Nat) (d : D) (st : RSt) : Bool × RSt :=
  if (ob kind a dp d st.o).1 = true then (true, st.held (ob kind a dp d st.o).2) else (false, st.stop a (ob kind a dp d st.o).2)

/-- a command of one step alone. -/
def oneX (K : Nat) (ins : List (List Int)) (d : D) (a : Int) (st : RSt) : RSt :=
  if sKind d = 1 then st.setv (sVar d) (valX st.vars K (sExpr d))
  else if sKind d = 3 then (st.took (sOther d)).setv (sVar d) (nextX ins st (sOther d))
  else if sKind d = 4 then st.tell (1, a, sOther d, valX st.vars K (sExpr d))
  else if sKind d = 5 then (st.setv (sVar d) (valX st.vars K (sExpr d))).tell (2, a, sVar d, valX st.vars K (sExpr d))
  else if sKind d = 6 then (st.setv (sVar d) (valX st.vars K (sExpr d))).tell (3, a, sVar d, valX st.vars K (sExpr d))
  else st

def RSt.args (K : Nat) (fs : List FnD) (d : D) (st : RSt) : RSt := { st with vars := setAll st.vars ((fnAt fs (sOther d)).ps.zip ((sArgs d).map (valX st.vars K))) }

/-- commands (0), a command (1), a loop (2). -/
def rn (K kf : Nat) (fs : List FnD) (F : Nat) (ins : List (List Int)) (ob : Ob) : Nat → Nat → Nat → List D → Int → Nat → RSt → Bool × RSt
  | 0, _, _, _, _, _, st => (false, st)
  | g + 1, 0, k, l, a, dp, st =>
    match l with
    | [] => (true, st)
    | d :: r => if st.steps = F then (false, st.out) else contR (passR ob 1 a dp d st.step) (fun st1 => contR (rn K kf fs F ins ob g 1 k [d] a dp st1) (fun st' => rn K kf fs F ins ob g 0 k r (a + cntS k d) dp st'))
  | g + 1, 1, k, l, a, dp, st =>
    match l with
    | [] => (true, st)
    | d :: _ =>
      if sKind d = 2 then contR (rn K kf fs F ins ob g 0 kf (fnAt fs (sOther d)).body (cntF kf (fs.take (sOther d).toNat)) dp (st.args K fs d)) (fun st1 => contR (passR ob 3 a dp d st1) (fun st' => (true, st'.setv (sVar d) (valX st'.vars K (fnAt fs (sOther d)).res))))
      else if sKind d = 7 then (if valX st.vars K (sExpr d) = 0 then rn K kf fs F ins ob g 0 (k - 1) (sElse d) (a + 1 + cnts (k - 1) (sThen d)) (dp + 1) st else rn K kf fs F ins ob g 0 (k - 1) (sThen d) (a + 1) (dp + 1) st)
      else if sKind d = 8 then rn K kf fs F ins ob g 2 k [d] a dp st
      else (true, oneX K ins d a st)
  | g + 1, _ + 2, k, l, a, dp, st =>
    match l with
    | [] => (true, st)
    | d :: _ => if valX st.vars K (sExpr d) = 0 then (true, st) else contR (rn K kf fs F ins ob g 0 (k - 1) (sThen d) (a + 1) (dp + 1) st) (fun st' => if st'.steps = F then (false, st'.out) else contR (passR ob 2 a dp d st'.step) (fun st1 => rn K kf fs F ins ob g 2 k [d] a dp st1))

/-- what grows. -/
structure Gr (st st' : RSt) : Prop where
  ev : st.ev <+: st'.ev
  steps : st.steps ≤ st'.steps
  len : st'.taken.length = st.taken.length
  taken : ∀ c, st.taken.getD c 0 ≤ st'.taken.getD c 0
theorem Gr.refl (st : RSt) : Gr st st := ⟨List.prefix_rfl, Nat.le_refl _, rfl, fun _ => Int.le_refl _⟩
theorem Gr.trans {a b c : RSt} (h : Gr a b) (k : Gr b c) : Gr a c := ⟨h.ev.trans k.ev, Nat.le_trans h.steps k.steps, k.len.trans h.len, fun x => Int.le_trans (h.taken x) (k.taken x)⟩
theorem Gr.step (st : RSt) : Gr st st.step := ⟨List.prefix_rfl, Nat.le_succ _, rfl, fun _ => Int.le_refl _⟩
theorem Gr.setv (st : RSt) (v x : Int) : Gr st (st.setv v x) := ⟨List.prefix_rfl, Nat.le_refl _, rfl, fun _ => Int.le_refl _⟩
theorem Gr.tell (st : RSt) (e : Ev4) : Gr st (st.tell e) := ⟨List.prefix_append _ _, Nat.le_refl _, rfl, fun _ => Int.le_refl _⟩
theorem Gr.args (K : Nat) (fs : List FnD) (d : D) (st : RSt) : Gr st (st.args K fs d) := ⟨List.prefix_rfl, Nat.le_refl _, rfl, fun _ => Int.le_refl _⟩
theorem getD_set {l : List Int} {i j : Nat} {x : Int} : (l.set i x).getD j 0 = if i = j ∧ i < l.length then x else l.getD j 0 := by
  rw [List.getD_eq_getElem?_getD, List.getD_eq_getElem?_getD, List.getElem?_set]
  by_cases h : i = j
  · subst h
    by_cases h2 : i < l.length
    · simp [h2]
    · simp [h2]
  · simp [h]
theorem Gr.took (st : RSt) (c : Int) : Gr st (st.took c) := ⟨List.prefix_rfl, Nat.le_refl _, by simp [RSt.took], fun x => by
  simp only [RSt.took, getD_set]
  split
  · rename_i h
    rw [← h.1]
    omega
  · exact Int.le_refl _⟩
theorem Gr.one (K : Nat) (ins : List (List Int)) (d : D) (a : Int) (st : RSt) : Gr st (oneX K ins d a st) := by
  unfold oneX
  split
  · exact Gr.setv _ _ _
  · split
    · exact (Gr.took _ _).trans (Gr.setv _ _ _)
    · split
      · exact Gr.tell _ _
      · split
        · exact (Gr.setv _ _ _).trans (Gr.tell _ _)
        · split
          · exact (Gr.setv _ _ _).trans (Gr.tell _ _)
          · exact Gr.refl _
theorem Gr.out (st : RSt) : Gr st st.out := ⟨List.prefix_rfl, Nat.le_refl _, rfl, fun _ => Int.le_refl _⟩
theorem Gr.pass (ob : Ob) (kind : Nat) (a : Int) (dp : Nat) (d : D) (st : RSt) : Gr st (passR ob kind a dp d st).2 := by
  unfold passR
  split
  · exact ⟨List.prefix_rfl, Nat.le_refl _, rfl, fun _ => Int.le_refl _⟩
  · exact ⟨List.prefix_rfl, Nat.le_refl _, rfl, fun _ => Int.le_refl _⟩
theorem pass_steps (ob : Ob) (kind : Nat) (a : Int) (dp : Nat) (d : D) (st : RSt) : (passR ob kind a dp d st).2.steps = st.steps := by
  unfold passR
  split <;> rfl
theorem contR_gr {st : RSt} {r : Bool × RSt} {f : RSt → Bool × RSt} (h : Gr st r.2) (hf : ∀ st', Gr st' (f st').2) : Gr st (contR r f).2 := by
  unfold contR
  split
  · exact h.trans (hf _)
  · exact h

theorem rn_gr (K kf : Nat) (fs : List FnD) (F : Nat) (ins : List (List Int)) (ob : Ob) : ∀ (g m k : Nat) (l : List D) (a : Int) (dp : Nat) (st : RSt), Gr st (rn K kf fs F ins ob g m k l a dp st).2 := by
  intro g
  induction g with
  | zero => intro m k l a dp st; exact Gr.refl _
  | succ g ih =>
    intro m k l a dp st
    match m, l with
    | 0, [] => exact Gr.refl _
    | 0, d :: r =>
      simp only [rn]
      split
      · exact Gr.out _
      · exact contR_gr ((Gr.step st).trans (Gr.pass _ _ _ _ _ _)) (fun st1 => contR_gr (ih _ _ _ _ _ _) (fun st' => ih _ _ _ _ _ _))
    | 1, [] => exact Gr.refl _
    | 1, d :: r =>
      simp only [rn]
      split
      · exact contR_gr ((Gr.args K fs d st).trans (ih _ _ _ _ _ _)) (fun st1 => contR_gr (Gr.pass _ _ _ _ _ _) (fun st' => Gr.setv _ _ _))
      · split
        · split
          · exact ih _ _ _ _ _ _
          · exact ih _ _ _ _ _ _
        · split
          · exact ih _ _ _ _ _ _
          · exact Gr.one _ _ _ _ _
    | m + 2, [] => exact Gr.refl _
    | m + 2, d :: r =>
      simp only [rn]
      split
      · exact Gr.refl _
      · refine contR_gr (ih _ _ _ _ _ _) (fun st' => ?_)
        split
        · exact Gr.out _
        · exact contR_gr ((Gr.step st').trans (Gr.pass _ _ _ _ _ _)) (fun st1 => ih _ _ _ _ _ _)
/-- the two commands of the small program. -/
def mainCells : List Value := [.int .i64 3, .int .i64 0, .int .i64 0, .int .i64 0, .int .i64 0, .slice none 0 0, .slice none 0 0, .slice none 0 0, .slice none 0 0, .int .i64 4, .int .i64 0, .int .i64 0, .int .i64 2, .int .i64 0, .slice none 0 0, .slice none 0 0, .slice none 0 0, .slice none 0 0]
def RowAt (cs : List Value) (w : World) (b : Nat) : Prop := ∀ j u, cs[j]? = some u → w.cell? ⟨b, j, none⟩ = some u
theorem RowAt.over {cs : List Value} {w w' : World} {b : Nat} (h : RowAt cs w b) (hB : Below w.heap.size w w') : RowAt cs w' b := fun j u hu => cell_over hB _ _ (h j u hu)

/-- the small program, where its parts lie. -/
abbrev smallV (bi bo bv bm : Nat) : Value := .agg #[.int .i64 1, .slice none 0 0, .slice none 0 0, .slice (some ⟨bi, 0, none⟩) 1 1, .slice (some ⟨bo, 0, none⟩) 1 1, .slice (some ⟨bv, 0, none⟩) 1 1, .slice none 0 0, .slice (some ⟨bm, 0, none⟩) 2 2]
theorem Try.infoL : (Try.prog.info? 102).map (fun i => (i.zero, i.size, i.bytes)) = some (some (.agg #[.slice none 0 0, .slice none 0 0]), 2, 48) := by kernel_rfl
theorem RowAt.new (cs : List Value) (t : Nat) (w : World) : RowAt cs (w.alloc (.cells cs.toArray t)) w.heap.size := fun j u hu => by
  rw [Lib.cell_of_heap (heap_alloc_new w _)]
  simpa using hu
/-- the small program lies there. -/
structure Small (bi bo bv bm : Nat) (w : World) : Prop where
  ins : RowAt [.slice none 0 0, .slice none 0 0] w bi
  outs : RowAt [.slice none 0 0, .slice none 0 0] w bo
  vars : RowAt [.bool false, .slice none 0 0, .slice none 0 0] w bv
  main : RowAt mainCells w bm
theorem Small.over {bi bo bv bm : Nat} {w w' : World} (h : Small bi bo bv bm w) (hB : Below w.heap.size w w') : Small bi bo bv bm w' :=
  ⟨h.ins.over hB, h.outs.over hB, h.vars.over hB, h.main.over hB⟩
set_option maxHeartbeats 1000000 in
theorem catch_idle (p q : Addr) (w : World) :
    CallsD Try.prog 106 #[.pointer (some p), .pointer (some q)] .returning w fun e u' w' => e = .returned (.tuple #[]) ∧ u' = .returning ∧ w' = w := by
  refine callsD_of_wpS Try.func106 rfl fun c₀ cs hu => ?_
  apply wpS_seq
  apply wpS_region
  simp [wpOpsS, go_sem, recoverD, hu, Try.ntmps106, Exit.thenS]
  refine wpS_of_wp ?_
  change Code.wp Try.prog _ _ { tmps := #[.pointer (some p), .pointer (some q), .nilIface, undef, .nilIface, undef, undef, undef, undef, undef, undef, undef, undef], defers := [] } w
  go_wp2
  cases c₀
  simp_all [bodyPostS, results, Try.results106]
end Go.Proofs.Ytcbbjjenkommeaa.Ex

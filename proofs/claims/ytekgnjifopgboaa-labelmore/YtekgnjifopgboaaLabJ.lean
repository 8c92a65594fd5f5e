/- Package label: Right and Flows keep their contracts. -/
import Derived.Test.YtekgnjifopgboaaLabL
namespace Go.Proofs.Ytekgnjifopgboaa
open Go.RowKit
set_option linter.unusedVariables false

theorem isLevs_one {W : World} {b : Nat} {rv wv : Value} {l : Lev} (h0 : W.cell? ⟨b, 0, none⟩ = some rv) (h1 : W.cell? ⟨b, 1, none⟩ = some wv) (hl : LevAt W (.agg #[rv, wv]) l) : IsLevs W (.slice (some ⟨b, 0, none⟩) 1 1) [l] := by
  refine ⟨_, 1, rfl, fun _ => ⟨b, 0, rfl, fun i hi => ?_⟩⟩
  have : i = 0 := by simp at hi; omega
  subst this
  exact ⟨rv, wv, by simpa using h0, by simpa using h1, hl⟩
theorem isLevs_two {W : World} {b : Nat} {rv wv ru wu : Value} {l k : Lev} (h0 : W.cell? ⟨b, 0, none⟩ = some rv) (h1 : W.cell? ⟨b, 1, none⟩ = some wv) (h2 : W.cell? ⟨b, 2, none⟩ = some ru) (h3 : W.cell? ⟨b, 3, none⟩ = some wu) (hl : LevAt W (.agg #[rv, wv]) l) (hk : LevAt W (.agg #[ru, wu]) k) : IsLevs W (.slice (some ⟨b, 0, none⟩) 2 2) [l, k] := by
  refine ⟨_, 2, rfl, fun _ => ⟨b, 0, rfl, fun i hi => ?_⟩⟩
  have : i = 0 ∨ i = 1 := by simp at hi; omega
  rcases this with rfl | rfl
  · exact ⟨rv, wv, by simpa using h0, by simpa using h1, hl⟩
  · exact ⟨ru, wu, by simpa using h2, by simpa using h3, hk⟩

theorem allErr_one (m : Int) (gs : List (Int × Int)) (l : Lev) : allErr m gs [l] = lRight m gs l := by
  unfold allErr lRight firstLev firstLev
  split
  · split
    · rename_i h; rw [h]
    · rfl
  · rfl
theorem allErr_two (m : Int) (gs : List (Int × Int)) (l k : Lev) : allErr m gs [l, k] = lTwo m gs l k := by
  unfold allErr lTwo lRight firstLev firstLev firstLev
  by_cases hc : chkErr m gs = 0
  · simp only [if_pos hc]
    by_cases h1 : levErr m l = 0
    · simp only [if_pos h1]
      by_cases h2 : levErr m k = 0
      · simp [h2]
      · simp [h2]
    · simp [h1]
  · simp [hc]

theorem lev_form {w : World} {v : Value} {l : Lev} (h : LevAt w v l) : ∃ a1 c1 a2 c2, v = .agg #[.slice a1 l.r.length c1, .slice a2 l.w.length c2] := by
  obtain ⟨vr, vw, rfl, ⟨a1, k1, rfl, -⟩, ⟨a2, k2, rfl, -⟩⟩ := h
  exact ⟨_, _, _, _, rfl⟩

set_option maxHeartbeats 1000000 in
theorem rightOk : RightOk := by
  intro m v gs vl l w hv hl
  have HL := hide hl
  obtain ⟨a1, k1, a2, k2, rfl⟩ := lev_form hl
  have HV := hide hv
  obtain ⟨va, vn, vc, rfl⟩ := grants_form hv
  have hb3 : Below w.heap.size w (((w.alloc (.cells #[.int .i64 m, .slice va vn vc] 24)).alloc (.cells #[.slice a1 l.r.length k1, .slice a2 l.w.length k2] 30)).alloc (.cells #[.slice a1 l.r.length k1, .slice a2 l.w.length k2] 30)) := (((Below.refl _ w).alloc (Nat.le_refl _) _).alloc (by simp) _).alloc (by simp; omega) _
  have hcall := allRight_any m (.slice va vn vc) (.slice (some ⟨w.heap.size + 1 + 1, 0, none⟩) 1 1) gs [l] _ (isGrants_over HV.out hb3) (isLevs_one (by simp [go_sem]) (by simp [go_sem]) (levAt_over HL.out hb3)) (by simp)
  rw [allErr_one] at hcall
  obtain ⟨r, hr⟩ : ∃ r, r = lRight m gs l := ⟨_, rfl⟩
  rw [← hr] at hcall ⊢
  have HC := hide hcall
  clear hl hv hcall hr
  go_enter Try.func22, Try.ntmps22
  go_wp2_with fail
  refine (HC.out).mono ?_
  rintro e w1 ⟨rfl, hb1⟩
  have hB1 := hb3.trans (hb1.mono (by simp; omega))
  clear HC hb1 hb3
  go_wp2_with fail
  go_ret
  exact ⟨rfl, hB1⟩

theorem lTwo_ok {m : Int} {gs : List (Int × Int)} {l k : Lev} (h : lTwo m gs l k = 0) : ∃ n : Nat, m = n ∧ 1 ≤ n ∧ n ≤ 6 ∧ l.len n ∧ k.len n ∧ chkErr m gs = 0 := by
  unfold lTwo at h
  split at h
  · rename_i h1
    have hc : chkErr m gs = 0 := by
      unfold lRight at h
      split at h
      · assumption
      · exact h
    obtain ⟨n, hm, h3, h4, _⟩ := chk_ok hc
    unfold lRight at h h1
    rw [if_pos hc] at h h1
    rcases levErr_cases m l with ⟨_, g1, g2⟩ | ⟨g, _⟩
    · rcases levErr_cases m k with ⟨_, g3, g4⟩ | ⟨g, _⟩
      · exact ⟨n, hm, h3, h4, ⟨by omega, by omega⟩, ⟨by omega, by omega⟩, hc⟩
      · rw [g] at h; cases h
    · rw [g] at h1; cases h1
  · rename_i h1
    exact absurd h h1

theorem allTwo (w : World) (m : Int) (gs : List (Int × Int)) (v : Value) (x y z u : Value) (l k : Lev) (hv : IsGrants w v gs) (hl : LevAt w (.agg #[x, y]) l) (hk : LevAt w (.agg #[z, u]) k) (W : World) (b : Nat) (hb : Below w.heap.size w W)
    (h0 : W.cell? ⟨b, 0, none⟩ = some x) (h1 : W.cell? ⟨b, 1, none⟩ = some y) (h2 : W.cell? ⟨b, 2, none⟩ = some z) (h3 : W.cell? ⟨b, 3, none⟩ = some u) :
    Calls Try.prog 42 #[.agg #[.int .i64 m, v], .slice (some ⟨b, 0, none⟩) 2 2] W fun e w' => e = .returned (.int .i64 (lTwo m gs l k)) ∧ Below W.heap.size W w' := by
  have hcall := allRight_any m v (.slice (some ⟨b, 0, none⟩) 2 2) gs [l, k] W (isGrants_over hv hb) (isLevs_two h0 h1 h2 h3 (levAt_over hl hb) (levAt_over hk hb)) (by simp)
  rw [allErr_two] at hcall
  exact hcall

set_option maxHeartbeats 1000000 in
theorem flowsOk : FlowsOk := by
  intro m v gs vl vk l k w hv hl hk
  have HL := hide hl
  have HK := hide hk
  have HV := hide hv
  obtain ⟨a1, k1, a2, k2, rfl⟩ := lev_form hl
  obtain ⟨a3, k3, a4, k4, rfl⟩ := lev_form hk
  obtain ⟨va, vn, vc, rfl⟩ := grants_form hv
  have hb3 : Below w.heap.size w ((((w.alloc (.cells #[.int .i64 m, .slice va vn vc] 24)).alloc (.cells #[.slice a1 l.r.length k1, .slice a2 l.w.length k2] 30)).alloc (.cells #[.slice a3 k.r.length k3, .slice a4 k.w.length k4] 30)).alloc (.cells #[.slice a1 l.r.length k1, .slice a2 l.w.length k2, .slice a3 k.r.length k3, .slice a4 k.w.length k4] 30)) := ((((Below.refl _ w).alloc (Nat.le_refl _) _).alloc (by simp) _).alloc (by simp; omega) _).alloc (by simp; omega) _
  have hcall := allTwo w m gs (.slice va vn vc) _ _ _ _ l k HV.out HL.out HK.out _ (w.heap.size + 1 + 1 + 1) hb3 (by simp [go_sem]) (by simp [go_sem]) (by simp [go_sem]) (by simp [go_sem])
  have hW := fun (n : Nat) (h1 : 1 ≤ n) (h6 : n ≤ 6) (hln : l.len n) (hkn : k.len n) (W : World) (hB : Below w.heap.size w W) => within_any (.slice a3 k.r.length k3) (.slice a1 l.r.length k1) k.r l.r n W h1 h6 (by obtain ⟨_, _, e, h, _⟩ := HK.out; obtain ⟨rfl, rfl⟩ := (by simpa using e : _ ∧ _); exact isBools_over h hB) (by obtain ⟨_, _, e, h, _⟩ := HL.out; obtain ⟨rfl, rfl⟩ := (by simpa using e : _ ∧ _); exact isBools_over h hB) hkn.1 hln.1
  have hX := fun (n : Nat) (h1 : 1 ≤ n) (h6 : n ≤ 6) (hln : l.len n) (hkn : k.len n) (W : World) (hB : Below w.heap.size w W) => within_any (.slice a2 l.w.length k2) (.slice a4 k.w.length k4) l.w k.w n W h1 h6 (by obtain ⟨_, _, e, _, h⟩ := HL.out; obtain ⟨rfl, rfl⟩ := (by simpa using e : _ ∧ _); exact isBools_over h hB) (by obtain ⟨_, _, e, _, h⟩ := HK.out; obtain ⟨rfl, rfl⟩ := (by simpa using e : _ ∧ _); exact isBools_over h hB) hln.2 hkn.2
  have hok := fun h => lTwo_ok (m := m) (gs := gs) (l := l) (k := k) h
  obtain ⟨r, hr⟩ : ∃ r, r = lTwo m gs l k := ⟨_, rfl⟩
  rw [← hr] at hcall hok ⊢
  have HC := hide hcall
  have KW := hide hW
  have KX := hide hX
  have HOK := hide hok
  clear hl hk hv hcall hW hX hok hr
  go_enter Try.func15, Try.ntmps15
  go_wp2_with fail
  refine (HC.out).mono ?_
  rintro e w1 ⟨rfl, hb1⟩
  have hB1 := hb3.trans (hb1.mono (by simp; omega))
  obtain ⟨hc, hf⟩ := bcell hb1
  have c0 : w1.cell? ⟨w.heap.size + 1, 0, none⟩ = some (.slice a1 l.r.length k1) := by rw [hc _ _ (by simp <;> omega)]; simp [go_sem]
  have c1 : w1.cell? ⟨w.heap.size + 1, 1, none⟩ = some (.slice a2 l.w.length k2) := by rw [hc _ _ (by simp <;> omega)]; simp [go_sem]
  have c2 : w1.cell? ⟨w.heap.size + 1 + 1, 0, none⟩ = some (.slice a3 k.r.length k3) := by rw [hc _ _ (by simp <;> omega)]; simp [go_sem]
  have c3 : w1.cell? ⟨w.heap.size + 1 + 1, 1, none⟩ = some (.slice a4 k.w.length k4) := by rw [hc _ _ (by simp <;> omega)]; simp [go_sem]
  clear hc hf hb1 hb3 HC
  by_cases hr0 : r = 0
  · subst hr0
    obtain ⟨n, hm, h1, h6, hln, hkn, hch⟩ := HOK.out (by first | rfl | trivial)
    subst hm
    have hw1 := KW.out n h1 h6 hln hkn
    have hx1 := KX.out n h1 h6 hln hkn
    have hfl := within_flows l k n
    obtain ⟨x, hx⟩ : ∃ x, x = withinB k.r l.r n := ⟨_, rfl⟩
    obtain ⟨y, hy⟩ : ∃ y, y = withinB l.w k.w n := ⟨_, rfl⟩
    rw [← hx] at hw1 hfl
    rw [← hy] at hx1 hfl
    have hfin : flowsB l k n = (x && y) := hfl.symm
    have HFIN := hide hfin
    have HW1 := hide hw1
    have HX1 := hide hx1
    clear hw1 hx1 hfl hx hy hfin KW KX HOK hch
    cases x with
    | false =>
      go_wp2_with fail
      refine (HW1.out _ hB1).mono ?_
      rintro e w2 ⟨rfl, hb2⟩
      have hB2 := hB1.trans (hb2.mono hB1.size)
      clear hb2
      go_wp2_with fail
      go_ret2
      exact ⟨by rw [HFIN.out]; simp, hB2⟩
    | true =>
      go_wp2_with fail
      refine (HW1.out _ hB1).mono ?_
      rintro e w2 ⟨rfl, hb2⟩
      have hB2 := hB1.trans (hb2.mono hB1.size)
      obtain ⟨hc, hf⟩ := bcell hb2
      have d1 : w2.cell? ⟨w.heap.size + 1, 1, none⟩ = some (.slice a2 l.w.length k2) := by rw [hc _ _ (World.block_lt_of_cell? w1 _ c1)]; exact c1
      have d3 : w2.cell? ⟨w.heap.size + 1 + 1, 1, none⟩ = some (.slice a4 k.w.length k4) := by rw [hc _ _ (World.block_lt_of_cell? w1 _ c3)]; exact c3
      clear hb2 hc hf c0 c1 c2 c3 hB1
      go_wp2_with fail
      refine (HX1.out _ hB2).mono ?_
      rintro e w3 ⟨rfl, hb3⟩
      have hB3 := hB2.trans (hb3.mono hB2.size)
      clear hb3 d1 d3
      go_wp2_with fail
      go_ret2
      exact ⟨by rw [HFIN.out]; simp, hB3⟩
  · have hne : (r != 0) = true := by simpa using hr0
    go_wp2_with fail
    go_ret2
    exact ⟨by simp [hr0], hB1⟩

theorem call44 (args : Array Value) (w : World) : (callFunc 44 args).run Try.prog w = .ok (.enter 44 args) w := by simp [go_sem]
set_option maxHeartbeats 400000 in
theorem join1_any (bl bm n k b1 o1 c1 b2 o2 c2 : Nat) (x y : Bool) (W : World) (hk : k < n) (hn : n ≤ 6) (h1 : W.cell? ⟨bl, 0, none⟩ = some (.slice (some ⟨b1, o1, none⟩) n c1)) (h2 : W.cell? ⟨bm, 0, none⟩ = some (.slice (some ⟨b2, o2, none⟩) n c2))
    (q1 : W.cell? ⟨b1, o1 + k, none⟩ = some (.bool x)) (q2 : W.cell? ⟨b2, o2 + k, none⟩ = some (.bool y)) :
    Calls Try.prog 44 #[.int .i64 k, .pointer (some ⟨bl, 0, none⟩), .pointer (some ⟨bm, 0, none⟩)] W fun e w' => e = .returned (.bool (x && y)) ∧ Below W.heap.size W w' := by
  cases x
  all_goals
    go_enter Try.func44, Try.ntmps44
    go_wp2_with fail
    go_ret
    exact ⟨by simp, Below.refl _ W⟩

theorem call45 (args : Array Value) (w : World) : (callFunc 45 args).run Try.prog w = .ok (.enter 45 args) w := by simp [go_sem]
set_option maxHeartbeats 400000 in
theorem join2_any (bl bm n k b1 o1 c1 b2 o2 c2 : Nat) (x y : Bool) (W : World) (hk : k < n) (hn : n ≤ 6) (h1 : W.cell? ⟨bl, 1, none⟩ = some (.slice (some ⟨b1, o1, none⟩) n c1)) (h2 : W.cell? ⟨bm, 1, none⟩ = some (.slice (some ⟨b2, o2, none⟩) n c2))
    (q1 : W.cell? ⟨b1, o1 + k, none⟩ = some (.bool x)) (q2 : W.cell? ⟨b2, o2 + k, none⟩ = some (.bool y)) :
    Calls Try.prog 45 #[.int .i64 k, .pointer (some ⟨bl, 0, none⟩), .pointer (some ⟨bm, 0, none⟩)] W fun e w' => e = .returned (.bool (x || y)) ∧ Below W.heap.size W w' := by
  cases x
  all_goals
    go_enter Try.func45, Try.ntmps45
    go_wp2_with fail
    go_ret
    exact ⟨by simp, Below.refl _ W⟩

theorem call46 (args : Array Value) (w : World) : (callFunc 46 args).run Try.prog w = .ok (.enter 46 args) w := by simp [go_sem]
set_option maxHeartbeats 400000 in
theorem meet1_any (bl bm n k b1 o1 c1 b2 o2 c2 : Nat) (x y : Bool) (W : World) (hk : k < n) (hn : n ≤ 6) (h1 : W.cell? ⟨bl, 0, none⟩ = some (.slice (some ⟨b1, o1, none⟩) n c1)) (h2 : W.cell? ⟨bm, 0, none⟩ = some (.slice (some ⟨b2, o2, none⟩) n c2))
    (q1 : W.cell? ⟨b1, o1 + k, none⟩ = some (.bool x)) (q2 : W.cell? ⟨b2, o2 + k, none⟩ = some (.bool y)) :
    Calls Try.prog 46 #[.int .i64 k, .pointer (some ⟨bl, 0, none⟩), .pointer (some ⟨bm, 0, none⟩)] W fun e w' => e = .returned (.bool (x || y)) ∧ Below W.heap.size W w' := by
  cases x
  all_goals
    go_enter Try.func46, Try.ntmps46
    go_wp2_with fail
    go_ret
    exact ⟨by simp, Below.refl _ W⟩

theorem call47 (args : Array Value) (w : World) : (callFunc 47 args).run Try.prog w = .ok (.enter 47 args) w := by simp [go_sem]
set_option maxHeartbeats 400000 in
theorem meet2_any (bl bm n k b1 o1 c1 b2 o2 c2 : Nat) (x y : Bool) (W : World) (hk : k < n) (hn : n ≤ 6) (h1 : W.cell? ⟨bl, 1, none⟩ = some (.slice (some ⟨b1, o1, none⟩) n c1)) (h2 : W.cell? ⟨bm, 1, none⟩ = some (.slice (some ⟨b2, o2, none⟩) n c2))
    (q1 : W.cell? ⟨b1, o1 + k, none⟩ = some (.bool x)) (q2 : W.cell? ⟨b2, o2 + k, none⟩ = some (.bool y)) :
    Calls Try.prog 47 #[.int .i64 k, .pointer (some ⟨bl, 0, none⟩), .pointer (some ⟨bm, 0, none⟩)] W fun e w' => e = .returned (.bool (x && y)) ∧ Below W.heap.size W w' := by
  cases x
  all_goals
    go_enter Try.func47, Try.ntmps47
    go_wp2_with fail
    go_ret
    exact ⟨by simp, Below.refl _ W⟩
end Go.Proofs.Ytekgnjifopgboaa

/- Package label: Right and Flows keep their contracts. -/
import Derived.Test.YtcbbjjenkommeaaM03
import Derived.Deep.RegionHeld3
import Derived.Deep.DrawnRows
namespace Go.Proofs.Ytcbbjjenkommeaa
open Go.RowKit
set_option linter.unusedVariables false
theorem isLevs_two {W : World} {b : Nat} {rv wv ru wu : Value} {l k : Lev} (h0 : W.cell? ⟨b, 0, none⟩ = some rv) (h1 : W.cell? ⟨b, 1, none⟩ = some wv) (h2 : W.cell? ⟨b, 2, none⟩ = some ru) (h3 : W.cell? ⟨b, 3, none⟩ = some wu) (hl : LevAt W (.agg #[rv, wv]) l) (hk : LevAt W (.agg #[ru, wu]) k) : IsLevs W (.slice (some ⟨b, 0, none⟩) 2 2) [l, k] := by
  refine ⟨_, 2, rfl, fun _ => ⟨b, 0, rfl, fun i hi => ?_⟩⟩
  have : i = 0 ∨ i = 1 := by simp at hi; omega
  rcases this with rfl | rfl
  · exact ⟨rv, wv, by simpa using h0, by simpa using h1, hl⟩
  · exact ⟨ru, wu, by simpa using h2, by simpa using h3, hk⟩

theorem allErr_two (m : Int) (gs : List (Int × Int)) (l k : Lev) : allErr m gs [l, k] = lTwo m gs l k := by
  unfold allErr lTwo lRight firstLev firstLev firstLev
  by_cases hc : chkErr m gs = 0
  · simp only [if_pos hc]
    by_cases h1 : levErr m l = 0
    · simp only [if_pos h1]
      by_cases h2 : levErr m k = 0
      · simp [h2]
      · simp [h2]
    · simp [h1]
  · simp [hc]

theorem lev_form {w : World} {v : Value} {l : Lev} (h : LevAt w v l) : ∃ a1 c1 a2 c2, v = .agg #[.slice a1 l.r.length c1, .slice a2 l.w.length c2] := by
  obtain ⟨vr, vw, rfl, ⟨a1, k1, rfl, -⟩, ⟨a2, k2, rfl, -⟩⟩ := h
  exact ⟨_, _, _, _, rfl⟩

theorem lTwo_ok {m : Int} {gs : List (Int × Int)} {l k : Lev} (h : lTwo m gs l k = 0) : ∃ n : Nat, m = n ∧ 1 ≤ n ∧ n ≤ 6 ∧ l.len n ∧ k.len n ∧ chkErr m gs = 0 := by
  unfold lTwo at h
  split at h
  · rename_i h1
    have hc : chkErr m gs = 0 := by
      unfold lRight at h
      split at h
      · assumption
      · exact h
    obtain ⟨n, hm, h3, h4, _⟩ := chk_ok hc
    unfold lRight at h h1
    rw [if_pos hc] at h h1
    rcases levErr_cases m l with ⟨_, g1, g2⟩ | ⟨g, _⟩
    · rcases levErr_cases m k with ⟨_, g3, g4⟩ | ⟨g, _⟩
      · exact ⟨n, hm, h3, h4, ⟨by omega, by omega⟩, ⟨by omega, by omega⟩, hc⟩
      · rw [g] at h; cases h
    · rw [g] at h1; cases h1
  · rename_i h1
    exact absurd h h1

theorem allTwo (w : World) (m : Int) (gs : List (Int × Int)) (v : Value) (x y z u : Value) (l k : Lev) (hv : IsGrants w v gs) (hl : LevAt w (.agg #[x, y]) l) (hk : LevAt w (.agg #[z, u]) k) (W : World) (b : Nat) (hb : Below w.heap.size w W)
    (h0 : W.cell? ⟨b, 0, none⟩ = some x) (h1 : W.cell? ⟨b, 1, none⟩ = some y) (h2 : W.cell? ⟨b, 2, none⟩ = some z) (h3 : W.cell? ⟨b, 3, none⟩ = some u) :
    Calls Try.prog 56 #[.agg #[.int .i64 m, v], .slice (some ⟨b, 0, none⟩) 2 2] W fun e w' => e = .returned (.int .i64 (lTwo m gs l k)) ∧ Below W.heap.size W w' := by
  have hcall := allRight_any m v (.slice (some ⟨b, 0, none⟩) 2 2) gs [l, k] W (isGrants_over hv hb) (isLevs_two h0 h1 h2 h3 (levAt_over hl hb) (levAt_over hk hb)) (by simp)
  rw [allErr_two] at hcall
  exact hcall

set_option maxHeartbeats 1000000 in
theorem flowsOk : FlowsOk := by
  intro m v gs vl vk l k w hv hl hk
  have HL := hide hl
  have HK := hide hk
  have HV := hide hv
  obtain ⟨a1, k1, a2, k2, rfl⟩ := lev_form hl
  obtain ⟨a3, k3, a4, k4, rfl⟩ := lev_form hk
  obtain ⟨va, vn, vc, rfl⟩ := grants_form hv
  have hb3 : Below w.heap.size w ((((w.alloc (.cells #[.int .i64 m, .slice va vn vc] 35)).alloc (.cells #[.slice a1 l.r.length k1, .slice a2 l.w.length k2] 62)).alloc (.cells #[.slice a3 k.r.length k3, .slice a4 k.w.length k4] 62)).alloc (.cells #[.slice a1 l.r.length k1, .slice a2 l.w.length k2, .slice a3 k.r.length k3, .slice a4 k.w.length k4] 62)) := ((((Below.refl _ w).alloc (Nat.le_refl _) _).alloc (by simp) _).alloc (by simp; omega) _).alloc (by simp; omega) _
  have hcall := allTwo w m gs (.slice va vn vc) _ _ _ _ l k HV.out HL.out HK.out _ (w.heap.size + 1 + 1 + 1) hb3 (by simp [go_sem]) (by simp [go_sem]) (by simp [go_sem]) (by simp [go_sem])
  have hW := fun (n : Nat) (h1 : 1 ≤ n) (h6 : n ≤ 6) (hln : l.len n) (hkn : k.len n) (W : World) (hB : Below w.heap.size w W) => within_any (.slice a3 k.r.length k3) (.slice a1 l.r.length k1) k.r l.r n W h1 h6 (by obtain ⟨_, _, e, h, _⟩ := HK.out; obtain ⟨rfl, rfl⟩ := (by simpa using e : _ ∧ _); exact isBools_over h hB) (by obtain ⟨_, _, e, h, _⟩ := HL.out; obtain ⟨rfl, rfl⟩ := (by simpa using e : _ ∧ _); exact isBools_over h hB) hkn.1 hln.1
  have hX := fun (n : Nat) (h1 : 1 ≤ n) (h6 : n ≤ 6) (hln : l.len n) (hkn : k.len n) (W : World) (hB : Below w.heap.size w W) => within_any (.slice a2 l.w.length k2) (.slice a4 k.w.length k4) l.w k.w n W h1 h6 (by obtain ⟨_, _, e, _, h⟩ := HL.out; obtain ⟨rfl, rfl⟩ := (by simpa using e : _ ∧ _); exact isBools_over h hB) (by obtain ⟨_, _, e, _, h⟩ := HK.out; obtain ⟨rfl, rfl⟩ := (by simpa using e : _ ∧ _); exact isBools_over h hB) hln.2 hkn.2
  have hok := fun h => lTwo_ok (m := m) (gs := gs) (l := l) (k := k) h
  obtain ⟨r, hr⟩ : ∃ r, r = lTwo m gs l k := ⟨_, rfl⟩
  rw [← hr] at hcall hok ⊢
  have HC := hide hcall
  have KW := hide hW
  have KX := hide hX
  have HOK := hide hok
  clear hl hk hv hcall hW hX hok hr
  go_enter Try.func19, Try.ntmps19
  go_wp2_with fail
  refine (HC.out).mono ?_
  rintro e w1 ⟨rfl, hb1⟩
  have hB1 := hb3.trans (hb1.mono (by simp; omega))
  obtain ⟨hc, hf⟩ := bcell hb1
  have c0 : w1.cell? ⟨w.heap.size + 1, 0, none⟩ = some (.slice a1 l.r.length k1) := by rw [hc _ _ (by simp <;> omega)]; simp [go_sem]
  have c1 : w1.cell? ⟨w.heap.size + 1, 1, none⟩ = some (.slice a2 l.w.length k2) := by rw [hc _ _ (by simp <;> omega)]; simp [go_sem]
  have c2 : w1.cell? ⟨w.heap.size + 1 + 1, 0, none⟩ = some (.slice a3 k.r.length k3) := by rw [hc _ _ (by simp <;> omega)]; simp [go_sem]
  have c3 : w1.cell? ⟨w.heap.size + 1 + 1, 1, none⟩ = some (.slice a4 k.w.length k4) := by rw [hc _ _ (by simp <;> omega)]; simp [go_sem]
  clear hc hf hb1 hb3 HC
  by_cases hr0 : r = 0
  · subst hr0
    obtain ⟨n, hm, h1, h6, hln, hkn, hch⟩ := HOK.out (by first | rfl | trivial)
    subst hm
    have hw1 := KW.out n h1 h6 hln hkn
    have hx1 := KX.out n h1 h6 hln hkn
    have hfl := within_flows l k n
    obtain ⟨x, hx⟩ : ∃ x, x = withinB k.r l.r n := ⟨_, rfl⟩
    obtain ⟨y, hy⟩ : ∃ y, y = withinB l.w k.w n := ⟨_, rfl⟩
    rw [← hx] at hw1 hfl
    rw [← hy] at hx1 hfl
    have hfin : flowsB l k n = (x && y) := hfl.symm
    have HFIN := hide hfin
    have HW1 := hide hw1
    have HX1 := hide hx1
    clear hw1 hx1 hfl hx hy hfin KW KX HOK hch
    cases x with
    | false =>
      go_wp2_with fail
      refine (HW1.out _ hB1).mono ?_
      rintro e w2 ⟨rfl, hb2⟩
      have hB2 := hB1.trans (hb2.mono hB1.size)
      clear hb2
      go_wp2_with fail
      go_ret2
      exact ⟨by rw [HFIN.out]; simp, hB2⟩
    | true =>
      go_wp2_with fail
      refine (HW1.out _ hB1).mono ?_
      rintro e w2 ⟨rfl, hb2⟩
      have hB2 := hB1.trans (hb2.mono hB1.size)
      obtain ⟨hc, hf⟩ := bcell hb2
      have d1 : w2.cell? ⟨w.heap.size + 1, 1, none⟩ = some (.slice a2 l.w.length k2) := by rw [hc _ _ (World.block_lt_of_cell? w1 _ c1)]; exact c1
      have d3 : w2.cell? ⟨w.heap.size + 1 + 1, 1, none⟩ = some (.slice a4 k.w.length k4) := by rw [hc _ _ (World.block_lt_of_cell? w1 _ c3)]; exact c3
      clear hb2 hc hf c0 c1 c2 c3 hB1
      go_wp2_with fail
      refine (HX1.out _ hB2).mono ?_
      rintro e w3 ⟨rfl, hb3⟩
      have hB3 := hB2.trans (hb3.mono hB2.size)
      clear hb3 d1 d3
      go_wp2_with fail
      go_ret2
      exact ⟨by rw [HFIN.out]; simp, hB3⟩
  · have hne : (r != 0) = true := by simpa using hr0
    go_wp2_with fail
    go_ret2
    exact ⟨by simp [hr0], hB1⟩

theorem call44 (args : Array Value) (w : World) : (callFunc 84 args).run Try.prog w = .ok (.enter 84 args) w := by simp [go_sem]
set_option maxHeartbeats 400000 in
theorem join1_any (bl bm n k b1 o1 c1 b2 o2 c2 : Nat) (x y : Bool) (W : World) (hk : k < n) (hn : n ≤ 6) (h1 : W.cell? ⟨bl, 0, none⟩ = some (.slice (some ⟨b1, o1, none⟩) n c1)) (h2 : W.cell? ⟨bm, 0, none⟩ = some (.slice (some ⟨b2, o2, none⟩) n c2))
    (q1 : W.cell? ⟨b1, o1 + k, none⟩ = some (.bool x)) (q2 : W.cell? ⟨b2, o2 + k, none⟩ = some (.bool y)) :
    Calls Try.prog 84 #[.int .i64 k, .pointer (some ⟨bl, 0, none⟩), .pointer (some ⟨bm, 0, none⟩)] W fun e w' => e = .returned (.bool (x && y)) ∧ Below W.heap.size W w' := by
  cases x
  all_goals
    go_enter Try.func84, Try.ntmps84
    go_wp2_with fail
    go_ret
    exact ⟨by simp, Below.refl _ W⟩

theorem call45 (args : Array Value) (w : World) : (callFunc 85 args).run Try.prog w = .ok (.enter 85 args) w := by simp [go_sem]
set_option maxHeartbeats 400000 in
theorem join2_any (bl bm n k b1 o1 c1 b2 o2 c2 : Nat) (x y : Bool) (W : World) (hk : k < n) (hn : n ≤ 6) (h1 : W.cell? ⟨bl, 1, none⟩ = some (.slice (some ⟨b1, o1, none⟩) n c1)) (h2 : W.cell? ⟨bm, 1, none⟩ = some (.slice (some ⟨b2, o2, none⟩) n c2))
    (q1 : W.cell? ⟨b1, o1 + k, none⟩ = some (.bool x)) (q2 : W.cell? ⟨b2, o2 + k, none⟩ = some (.bool y)) :
    Calls Try.prog 85 #[.int .i64 k, .pointer (some ⟨bl, 0, none⟩), .pointer (some ⟨bm, 0, none⟩)] W fun e w' => e = .returned (.bool (x || y)) ∧ Below W.heap.size W w' := by
  cases x
  all_goals
    go_enter Try.func85, Try.ntmps85
    go_wp2_with fail
    go_ret
    exact ⟨by simp, Below.refl _ W⟩
attribute [local go_sem ↓] Go.wp_at_zero Go.wp_at_succ

theorem kept2 {B : Nat} {wB W W' : World} {b o0 o1 : Nat} {v0 v1 : Value} (h : W.cell? ⟨b, o0, none⟩ = some v0 ∧ W.cell? ⟨b, o1, none⟩ = some v1 ∧ Below B wB W) (hb : Below W.heap.size W W') (hB : B ≤ wB.heap.size) : W'.cell? ⟨b, o0, none⟩ = some v0 ∧ W'.cell? ⟨b, o1, none⟩ = some v1 ∧ Below B wB W' := by
  obtain ⟨h0, h1, h2⟩ := h
  obtain ⟨hc, hf⟩ := bcell hb
  exact ⟨by rw [hc _ _ (World.block_lt_of_cell? W _ h0)]; exact h0, by rw [hc _ _ (World.block_lt_of_cell? W _ h1)]; exact h1, h2.trans (hb.mono (Nat.le_trans hB h2.size))⟩

theorem set2 {B : Nat} {wB W : World} {b o0 o1 : Nat} {v0 v1 : Value} (h : W.cell? ⟨b, o0, none⟩ = some v0 ∧ W.cell? ⟨b, o1, none⟩ = some v1 ∧ Below B wB W) (hb : b < B) {p : Addr} (hp : B ≤ p.block) (u : Value) : (W.setCell p u).cell? ⟨b, o0, none⟩ = some v0 ∧ (W.setCell p u).cell? ⟨b, o1, none⟩ = some v1 ∧ Below B wB (W.setCell p u) := by
  obtain ⟨h0, h1, h2⟩ := h
  have hne : ∀ o, (W.setCell p u).cell? ⟨b, o, none⟩ = W.cell? ⟨b, o, none⟩ := fun o => World.cell?_setCell_other _ _ _ _ (by rintro rfl; simp at hp; omega)
  exact ⟨by rw [hne]; exact h0, by rw [hne]; exact h1, h2.setCell hp u⟩

/-- a level of two new lists, stored in its place. -/
theorem fresh_pair {w wa wp wq : World} {g1 g2 n q : Nat} {f1 f2 : Nat → Bool} (hw : w.heap.size ≤ wa.heap.size) (hq : q < wa.heap.size)
    (h1 : wp.ownsRow wa.heap.size 4 1 (.slice (some ⟨g1, 0, none⟩) n n) n (boolCells (rowOf f1 n))) (hl1 : g1 < wp.heap.size) (hz : wa.heap.size ≤ wp.heap.size)
    (h2 : wq.ownsRow wp.heap.size 4 1 (.slice (some ⟨g2, 0, none⟩) n n) n (boolCells (rowOf f2 n))) (hb : Below wp.heap.size wp wq) (hg2 : wp.heap.size ≤ g2) (u0 u1 : Value) :
    LevFresh w ((wq.setCell ⟨q, 0, none⟩ u0).setCell ⟨q, 1, none⟩ u1) (.agg #[.slice (some ⟨g1, 0, none⟩) n n, .slice (some ⟨g2, 0, none⟩) n n]) ⟨rowOf f1 n, rowOf f2 n⟩ := by
  refine ⟨_, _, rfl, ?_, ?_, Or.inr ?_⟩
  · rw [rowOf_length]
    exact ownB_base (ownB_set (ownB_set (ownB_over h1 hb) (by simpa using hq) _) (by simpa using hq) _) hw
  · rw [rowOf_length]
    exact ownB_base (ownB_set (ownB_set h2 (by simp; omega) _) (by simp; omega) _) (Nat.le_trans hw hz)
  · simp [Value.ownBlock]
    omega

theorem fresh_none (w W : World) : LevFresh w W (.agg #[.slice none 0 0, .slice none 0 0]) noLev :=
  ⟨_, _, rfl, World.ownsRow_nil _ _ _ _, World.ownsRow_nil _ _ _ _, Or.inl rfl⟩

theorem joinClosure (w : World) (n : Nat) (h1 : 1 ≤ n) (hn : n ≤ 6) (x y z u v : Value) (l k : Lev) (hl : LevAt w (.agg #[x, y]) l) (hk : LevAt w (.agg #[z, u]) k) (hln : l.len n) (hkn : k.len n) (W : World) (hB : Below w.heap.size w W) (hz : w.heap.size + 3 ≤ W.heap.size)
    (c0 : W.cell? ⟨w.heap.size + 1, 0, none⟩ = some x) (c1 : W.cell? ⟨w.heap.size + 1, 1, none⟩ = some y) (c2 : W.cell? ⟨w.heap.size + 1 + 1, 0, none⟩ = some z) (c3 : W.cell? ⟨w.heap.size + 1 + 1, 1, none⟩ = some u) :
    (Calls Try.prog 80 #[.agg #[.int .i64 n, v], .func (.func 84) #[] #[.pointer (some ⟨w.heap.size + 1, 0, none⟩), .pointer (some ⟨w.heap.size + 1 + 1, 0, none⟩)]] W fun e w' => ∃ g, e = .returned (.slice (some ⟨g, 0, none⟩) n n) ∧ W.heap.size ≤ g ∧ g < w'.heap.size ∧ w'.ownsRow W.heap.size 4 1 (.slice (some ⟨g, 0, none⟩) n n) n (boolCells (rowOf (andAt l.r k.r) n)) ∧ Below W.heap.size W w') ∧
    (Calls Try.prog 80 #[.agg #[.int .i64 n, v], .func (.func 85) #[] #[.pointer (some ⟨w.heap.size + 1, 0, none⟩), .pointer (some ⟨w.heap.size + 1 + 1, 0, none⟩)]] W fun e w' => ∃ g, e = .returned (.slice (some ⟨g, 0, none⟩) n n) ∧ W.heap.size ≤ g ∧ g < w'.heap.size ∧ w'.ownsRow W.heap.size 4 1 (.slice (some ⟨g, 0, none⟩) n n) n (boolCells (rowOf (orAt l.w k.w) n)) ∧ Below W.heap.size W w') := by
  obtain ⟨x', y', e, hr1, hw1⟩ := hl
  obtain ⟨rfl, rfl⟩ : x = x' ∧ y = y' := by simpa using e
  obtain ⟨z', u', e', hr2, hw2⟩ := hk
  obtain ⟨rfl, rfl⟩ : z = z' ∧ u = u' := by simpa using e'
  obtain ⟨b1, o1, k1, rfl, q1⟩ := isBools_pos (isBools_over hr1 hB) hln.1 h1
  obtain ⟨b2, o2, k2, rfl, q2⟩ := isBools_pos (isBools_over hr2 hB) hkn.1 h1
  obtain ⟨b3, o3, k3, rfl, q3⟩ := isBools_pos (isBools_over hw1 hB) hln.2 h1
  obtain ⟨b4, o4, k4, rfl, q4⟩ := isBools_pos (isBools_over hw2 hB) hkn.2 h1
  have up : ∀ (W' : World), Below W.heap.size W W' → ∀ b o v, W.cell? ⟨b, o, none⟩ = some v → W'.cell? ⟨b, o, none⟩ = some v := fun W' hb b o v h => by rw [(bcell hb).1 _ _ (World.block_lt_of_cell? W _ h)]; exact h
  refine ⟨those_any 84 _ _ (andAt l.r k.r) n h1 hn v W (hide fun i hi W' hb => ?_) call44, those_any 85 _ _ (orAt l.w k.w) n h1 hn v W (hide fun i hi W' hb => ?_) call45⟩
  · exact join1_any _ _ n i b1 o1 k1 b2 o2 k2 _ _ W' hi hn (up W' hb _ _ _ c0) (up W' hb _ _ _ c2) (up W' hb _ _ _ (q1 i hi)) (up W' hb _ _ _ (q2 i hi))
  · exact join2_any _ _ n i b3 o3 k3 b4 o4 k4 _ _ W' hi hn (up W' hb _ _ _ c1) (up W' hb _ _ _ c3) (up W' hb _ _ _ (q3 i hi)) (up W' hb _ _ _ (q4 i hi))

set_option maxHeartbeats 4000000 in
theorem joinOk : JoinOk := by
  intro m v gs vl vk l k w hv hl hk
  have HL := hide hl
  have HK := hide hk
  have HV := hide hv
  obtain ⟨a1, k1, a2, k2, rfl⟩ := lev_form hl
  obtain ⟨a3, k3, a4, k4, rfl⟩ := lev_form hk
  obtain ⟨va, vn, vc, rfl⟩ := grants_form hv
  have hb3 : Below w.heap.size w (((((w.alloc (.cells #[.int .i64 m, .slice va vn vc] 35)).alloc (.cells #[.slice a1 l.r.length k1, .slice a2 l.w.length k2] 62)).alloc (.cells #[.slice a3 k.r.length k3, .slice a4 k.w.length k4] 62)).alloc (.cells #[.slice none 0 0, .slice none 0 0] 62)).alloc (.cells #[.slice a1 l.r.length k1, .slice a2 l.w.length k2, .slice a3 k.r.length k3, .slice a4 k.w.length k4] 62)) := (((((Below.refl _ w).alloc (Nat.le_refl _) _).alloc (by simp) _).alloc (by simp; omega) _).alloc (by simp; omega) _).alloc (by simp; omega) _
  have hcall := allTwo w m gs (.slice va vn vc) _ _ _ _ l k HV.out HL.out HK.out _ (w.heap.size + 1 + 1 + 1 + 1) hb3 (by simp [go_sem]) (by simp [go_sem]) (by simp [go_sem]) (by simp [go_sem])
  have hok := fun h => lTwo_ok (m := m) (gs := gs) (l := l) (k := k) h
  obtain ⟨r, hr⟩ : ∃ r, r = lTwo m gs l k := ⟨_, rfl⟩
  rw [← hr] at hcall hok ⊢
  have HC := hide hcall
  have HOK := hide hok
  clear hl hk hv hcall hok hr
  go_enter Try.func48, Try.ntmps48
  go_wp2_with fail
  refine (HC.out).mono ?_
  rintro e w1 ⟨rfl, hb1⟩
  have hB1 := hb3.trans (hb1.mono (by simp <;> omega))
  have hz1 := hb1.size
  simp at hz1
  obtain ⟨hc, hf⟩ := bcell hb1
  have a0 : w1.cell? ⟨w.heap.size, 0, none⟩ = some (.int .i64 m) := by rw [hc _ _ (by simp <;> omega)]; simp [go_sem]
  have a1' : w1.cell? ⟨w.heap.size, 1, none⟩ = some (.slice va vn vc) := by rw [hc _ _ (by simp <;> omega)]; simp [go_sem]
  have c0 : w1.cell? ⟨w.heap.size + 1, 0, none⟩ = some (.slice a1 l.r.length k1) := by rw [hc _ _ (by simp <;> omega)]; simp [go_sem]
  have c1 : w1.cell? ⟨w.heap.size + 1, 1, none⟩ = some (.slice a2 l.w.length k2) := by rw [hc _ _ (by simp <;> omega)]; simp [go_sem]
  have c2 : w1.cell? ⟨w.heap.size + 1 + 1, 0, none⟩ = some (.slice a3 k.r.length k3) := by rw [hc _ _ (by simp <;> omega)]; simp [go_sem]
  have c3 : w1.cell? ⟨w.heap.size + 1 + 1, 1, none⟩ = some (.slice a4 k.w.length k4) := by rw [hc _ _ (by simp <;> omega)]; simp [go_sem]
  have e0 : w1.cell? ⟨w.heap.size + 1 + 1 + 1, 0, none⟩ = some (.slice none 0 0) := by rw [hc _ _ (by simp <;> omega)]; simp [go_sem]
  have e1 : w1.cell? ⟨w.heap.size + 1 + 1 + 1, 1, none⟩ = some (.slice none 0 0) := by rw [hc _ _ (by simp <;> omega)]; simp [go_sem]
  have f0 : w1.frozen? ⟨w.heap.size + 1 + 1 + 1, 0, none⟩ = false := by rw [hf _ _ (by simp <;> omega)]; simp [go_sem]
  have f1 : w1.frozen? ⟨w.heap.size + 1 + 1 + 1, 1, none⟩ = false := by rw [hf _ _ (by simp <;> omega)]; simp [go_sem]
  clear hc hf hb1 hb3 HC
  by_cases hr0 : r = 0
  · subst hr0
    obtain ⟨n, hm, h1, h6, hln, hkn, hch⟩ := HOK.out (by first | rfl | trivial)
    subst hm
    have KT := hide fun (W : World) (hB : Below (w.heap.size + 1 + 1 + 1) w1 W) => joinClosure w n h1 h6 _ _ _ _ (.slice va vn vc) l k HL.out HK.out hln hkn W (hB1.trans (hB.mono (by omega))) (Nat.le_trans (by omega) hB.size) (by rw [hB.cell (p := ⟨w.heap.size + 1, 0, none⟩) (by simp <;> omega)]; exact c0) (by rw [hB.cell (p := ⟨w.heap.size + 1, 1, none⟩) (by simp <;> omega)]; exact c1) (by rw [hB.cell (p := ⟨w.heap.size + 1 + 1, 0, none⟩) (by simp <;> omega)]; exact c2) (by rw [hB.cell (p := ⟨w.heap.size + 1 + 1, 1, none⟩) (by simp <;> omega)]; exact c3)
    have E0 := hide e0
    have E1 := hide e1
    have F0 := hide f0
    have F1 := hide f1
    clear c0 c1 c2 c3 e0 e1 f0 f1 hln hkn hch HOK HL HK HV
    have hz3 : w.heap.size + 1 + 1 + 1 ≤ w1.heap.size := by omega
    have hz4 : w.heap.size + 1 + 1 + 1 < w1.heap.size := by omega
    have hltN : w.heap.size < w.heap.size + 1 + 1 + 1 := by omega
    have HZ4 := hide hz4
    have HLN := hide hltN
    have HZ3 := hide hz3
    clear hz3 hz4 hltN
    go_wp2_with fail
    first | go_region_held3 (fun W => W.cell? ⟨w.heap.size, 0, none⟩ = some (.int .i64 n) ∧ W.cell? ⟨w.heap.size, 1, none⟩ = some (.slice va vn vc) ∧ Below (w.heap.size + 1 + 1 + 1) w1 W) (first | assumption | exact ⟨a0, a1', below_drewN (Below.refl _ _) 1⟩ | exact kept2 (by assumption) hbq HZ3.out | exact kept2 (by assumption) hbp HZ3.out | exact set2 (set2 (by assumption) HLN.out (Nat.le_refl _) _) HLN.out (Nat.le_refl _) _ | fail) (first | (go_at_call 80; have hsec := ep0; refine (KT.out _ (by assumption : _ ∧ _ ∧ _).2.2).2.mono ?_; rintro e wq ⟨g2, rfl, hg2, hg2', ho2, hbq⟩; have eq0 : wq.cell? ⟨w.heap.size + 1 + 1 + 1, 0, none⟩ = some (.slice none 0 0) := (by rw [(bcell hbq).1 _ _ (World.block_lt_of_cell? wp _ ep0)]; exact ep0); have eq1 : wq.cell? ⟨w.heap.size + 1 + 1 + 1, 1, none⟩ = some (.slice none 0 0) := (by rw [(bcell hbq).1 _ _ (World.block_lt_of_cell? wp _ ep0)]; exact ep1); have fq0 : wq.frozen? ⟨w.heap.size + 1 + 1 + 1, 0, none⟩ = false := (by rw [(bcell hbq).2 _ _ (World.block_lt_of_cell? wp _ ep0)]; exact fp0); have fq1 : wq.frozen? ⟨w.heap.size + 1 + 1 + 1, 1, none⟩ = false := (by rw [(bcell hbq).2 _ _ (World.block_lt_of_cell? wp _ ep0)]; exact fp1)) | (go_at_call 80; refine (KT.out _ (by assumption : _ ∧ _ ∧ _).2.2).1.mono ?_; rintro e wp ⟨g1, rfl, hg1, hg1', ho1, hbp⟩; have ep0 : wp.cell? ⟨w.heap.size + 1 + 1 + 1, 0, none⟩ = some (.slice none 0 0) := (by rw [(bcell hbp).1 _ _ HZ4.out]; exact E0.out); have ep1 : wp.cell? ⟨w.heap.size + 1 + 1 + 1, 1, none⟩ = some (.slice none 0 0) := (by rw [(bcell hbp).1 _ _ HZ4.out]; exact E1.out); have fp0 : wp.frozen? ⟨w.heap.size + 1 + 1 + 1, 0, none⟩ = false := (by rw [(bcell hbp).2 _ _ HZ4.out]; exact F0.out); have fp1 : wp.frozen? ⟨w.heap.size + 1 + 1 + 1, 1, none⟩ = false := (by rw [(bcell hbp).2 _ _ HZ4.out]; exact F1.out))) | fail
    all_goals go_wp2_with fail
    all_goals
      refine bodyPost_ret (v := .tuple #[.agg #[.slice (some ⟨g1, 0, none⟩) n n, .slice (some ⟨g2, 0, none⟩) n n], .int .i64 0]) (by simp [results, Try.results48, go_sem, eq0, eq1]) rfl ⟨_, rfl, fresh_pair (w := w) (wa := w1.drew) (q := w.heap.size + 1 + 1 + 1) (f1 := andAt l.r k.r) (f2 := orAt l.w k.w) hB1.size HZ4.out ho1 hg1' hbp.size ho2 hbq hg2 _ _, ?_⟩
      have hd1 : Below w.heap.size w w1.drew := below_drewN hB1 1
      have hd2 := hd1.trans (hbp.mono hd1.size)
      have hd3 := hd2.trans (hbq.mono hd2.size)
      exact (hd3.setCell (by simp; omega) _).setCell (by simp; omega) _
  · have hne : (r != 0) = true := by simpa using hr0
    go_wp2_with fail
    refine bodyPost_ret (v := .tuple #[.agg #[.slice none 0 0, .slice none 0 0], .int .i64 r]) (by simp [results, Try.results48, go_sem, e0, e1]) rfl ⟨_, rfl, fresh_none _ _, (hB1.setCell (by simp; omega) _).setCell (by simp; omega) _⟩
attribute [local go_sem ↓] Go.wp_at_zero Go.wp_at_succ

theorem mayB_row (gn : List (Nat × Nat)) (n who : Nat) (ps : List Pol) : ps.all (polR (acts gn n who)) = mayB gn n who ps := rfl

theorem kept3 {wB W W' : World} {b0 o0 b1 o1 b2 o2 : Nat} {v0 v1 v2 : Value} (h : W.cell? ⟨b0, o0, none⟩ = some v0 ∧ W.cell? ⟨b1, o1, none⟩ = some v1 ∧ W.cell? ⟨b2, o2, none⟩ = some v2 ∧ Below wB.heap.size wB W) (hb : Below W.heap.size W W') : W'.cell? ⟨b0, o0, none⟩ = some v0 ∧ W'.cell? ⟨b1, o1, none⟩ = some v1 ∧ W'.cell? ⟨b2, o2, none⟩ = some v2 ∧ Below wB.heap.size wB W' := held3c h hb

theorem call30 (args : Array Value) (w : World) : (callFunc 81 args).run Try.prog w = .ok (.enter 81 args) w := by simp [go_sem]
set_option maxHeartbeats 1000000 in
theorem level1_any (ab lb ob n who : Nat) (hn : n ≤ 6) (hw : who < n) (gn : List (Nat × Nat)) (pv : Value) (ps : List Pol) (w : World) (h0 : w.cell? ⟨ab, 0, none⟩ = some (.slice (some ⟨ob, 0, none⟩) n n)) (h1 : w.cell? ⟨lb, 0, none⟩ = some pv) (hr : RowsAt w ob n gn n) (hp : IsPols w pv ps) (hps : ps.length ≤ 4 ∧ ∀ p ∈ ps, polIn n p) :
    Calls Try.prog 81 #[.int .i64 who, .pointer (some ⟨ab, 0, none⟩), .pointer (some ⟨lb, 0, none⟩)] w fun e w' => e = .returned (.bool (mayB gn n who ps)) ∧ Below w.heap.size w w' := by
  obtain ⟨kb, hne, hc, hk⟩ := hr who hw
  have hrow : RowAt w kb n (acts gn n who) := ⟨acts_length _ _ _, fun i hi => (hk i hi).1⟩
  have hM := fun (W : World) (hB : Below w.heap.size w W) => mayByAll_any kb n (acts gn n who) pv ps W hn (rowAt_over hrow hB) (isPols_over hp hB) hps
  simp only [mayB_row] at hM
  obtain ⟨pa, pn, pc, rfl⟩ := pols_form hp
  obtain ⟨r, hr⟩ : ∃ r, r = mayB gn n who ps := ⟨_, rfl⟩
  rw [← hr] at hM ⊢
  have KM := hide hM
  have i0 : (0 : Int) ≤ (who : Int) := by omega
  have i1 : (who : Int) < (n : Int) := by omega
  clear hM hr hp hrow hk hne
  go_enter Try.func81, Try.ntmps81
  go_wp2_with fail
  first | go_region_held3 (fun W => W.cell? ⟨ab, 0, none⟩ = some (.slice (some ⟨ob, 0, none⟩) n n) ∧ W.cell? ⟨ob, who, none⟩ = some (.slice (some ⟨kb, 0, none⟩) n n) ∧ W.cell? ⟨lb, 0, none⟩ = some (.slice pa pn pc) ∧ Below w.heap.size w W) (first | assumption | exact ⟨h0, hc, h1, below_drewN (Below.refl _ _) 1⟩ | exact kept3 (by assumption) hbp | fail) (first | (go_at_call 82; refine (KM.out _ (by assumption : _ ∧ _ ∧ _ ∧ _).2.2.2).mono ?_; rintro e wp ⟨rfl, hbp⟩)) | fail
  all_goals obtain ⟨-, -, -, hB⟩ := (by assumption : wp.cell? _ = _ ∧ _ ∧ _ ∧ _)
  all_goals go_wp2_with fail
  all_goals go_ret
  all_goals exact ⟨rfl, hB⟩

theorem call32 (args : Array Value) (w : World) : (callFunc 83 args).run Try.prog w = .ok (.enter 83 args) w := by simp [go_sem]
set_option maxHeartbeats 1000000 in
theorem level2_any (ab lb ob n who : Nat) (hn : n ≤ 6) (hw : who < n) (gn : List (Nat × Nat)) (pv : Value) (ps : List Pol) (w : World) (h0 : w.cell? ⟨ab, 0, none⟩ = some (.slice (some ⟨ob, 0, none⟩) n n)) (h1 : w.cell? ⟨lb, 1, none⟩ = some pv) (hr : RowsAt w ob n gn n) (hp : IsPols w pv ps) (hps : ps.length ≤ 4 ∧ ∀ p ∈ ps, polIn n p) :
    Calls Try.prog 83 #[.int .i64 who, .pointer (some ⟨ab, 0, none⟩), .pointer (some ⟨lb, 0, none⟩)] w fun e w' => e = .returned (.bool (mayB gn n who ps)) ∧ Below w.heap.size w w' := by
  obtain ⟨kb, hne, hc, hk⟩ := hr who hw
  have hrow : RowAt w kb n (acts gn n who) := ⟨acts_length _ _ _, fun i hi => (hk i hi).1⟩
  have hM := fun (W : World) (hB : Below w.heap.size w W) => mayByAll_any kb n (acts gn n who) pv ps W hn (rowAt_over hrow hB) (isPols_over hp hB) hps
  simp only [mayB_row] at hM
  obtain ⟨pa, pn, pc, rfl⟩ := pols_form hp
  obtain ⟨r, hr⟩ : ∃ r, r = mayB gn n who ps := ⟨_, rfl⟩
  rw [← hr] at hM ⊢
  have KM := hide hM
  have i0 : (0 : Int) ≤ (who : Int) := by omega
  have i1 : (who : Int) < (n : Int) := by omega
  clear hM hr hp hrow hk hne
  go_enter Try.func83, Try.ntmps83
  go_wp2_with fail
  first | go_region_held3 (fun W => W.cell? ⟨ab, 0, none⟩ = some (.slice (some ⟨ob, 0, none⟩) n n) ∧ W.cell? ⟨ob, who, none⟩ = some (.slice (some ⟨kb, 0, none⟩) n n) ∧ W.cell? ⟨lb, 1, none⟩ = some (.slice pa pn pc) ∧ Below w.heap.size w W) (first | assumption | exact ⟨h0, hc, h1, below_drewN (Below.refl _ _) 1⟩ | exact kept3 (by assumption) hbp | fail) (first | (go_at_call 82; refine (KM.out _ (by assumption : _ ∧ _ ∧ _ ∧ _).2.2.2).mono ?_; rintro e wp ⟨rfl, hbp⟩)) | fail
  all_goals obtain ⟨-, -, -, hB⟩ := (by assumption : wp.cell? _ = _ ∧ _ ∧ _ ∧ _)
  all_goals go_wp2_with fail
  all_goals go_ret
  all_goals exact ⟨rfl, hB⟩

theorem levelClosure (n : Nat) (h1 : 1 ≤ n) (hn : n ≤ 6) (ab lb ob : Nat) (gn : List (Nat × Nat)) (v pr pw : Value) (bl : Lab) (w3 : World) (h0 : w3.cell? ⟨ab, 0, none⟩ = some (.slice (some ⟨ob, 0, none⟩) n n)) (l0 : w3.cell? ⟨lb, 0, none⟩ = some pr) (l1 : w3.cell? ⟨lb, 1, none⟩ = some pw) (hr : RowsAt w3 ob n gn n) (hp : IsPols w3 pr bl.r) (hq : IsPols w3 pw bl.w) (hin : labIn n bl) (W : World) (hB : Below w3.heap.size w3 W) :
    (Calls Try.prog 80 #[.agg #[.int .i64 n, v], .func (.func 81) #[] #[.pointer (some ⟨ab, 0, none⟩), .pointer (some ⟨lb, 0, none⟩)]] W fun e w' => ∃ g, e = .returned (.slice (some ⟨g, 0, none⟩) n n) ∧ W.heap.size ≤ g ∧ g < w'.heap.size ∧ w'.ownsRow W.heap.size 4 1 (.slice (some ⟨g, 0, none⟩) n n) n (boolCells (rowOf (fun i => mayB gn n i bl.r) n)) ∧ Below W.heap.size W w') ∧
    (Calls Try.prog 80 #[.agg #[.int .i64 n, v], .func (.func 83) #[] #[.pointer (some ⟨ab, 0, none⟩), .pointer (some ⟨lb, 0, none⟩)]] W fun e w' => ∃ g, e = .returned (.slice (some ⟨g, 0, none⟩) n n) ∧ W.heap.size ≤ g ∧ g < w'.heap.size ∧ w'.ownsRow W.heap.size 4 1 (.slice (some ⟨g, 0, none⟩) n n) n (boolCells (rowOf (fun i => mayB gn n i bl.w) n)) ∧ Below W.heap.size W w') := by
  have up : ∀ (W' : World), Below W.heap.size W W' → ∀ b o v, w3.cell? ⟨b, o, none⟩ = some v → W'.cell? ⟨b, o, none⟩ = some v := fun W' hb b o v h => by rw [(bcell hb).1 _ _ (Nat.lt_of_lt_of_le (World.block_lt_of_cell? w3 _ h) hB.size), (bcell hB).1 _ _ (World.block_lt_of_cell? w3 _ h)]; exact h
  refine ⟨those_any 81 _ _ (fun i => mayB gn n i bl.r) n h1 hn v W (hide fun i hi W' hb => ?_) call30, those_any 83 _ _ (fun i => mayB gn n i bl.w) n h1 hn v W (hide fun i hi W' hb => ?_) call32⟩
  · have hB' : Below w3.heap.size w3 W' := hB.trans (hb.mono hB.size)
    exact level1_any ab lb ob n i hn hi gn pr bl.r W' (up W' hb _ _ _ h0) (up W' hb _ _ _ l0) (rows_over hr hB') (isPols_over hp hB') hin.1
  · have hB' : Below w3.heap.size w3 W' := hB.trans (hb.mono hB.size)
    exact level2_any ab lb ob n i hn hi gn pw bl.w W' (up W' hb _ _ _ h0) (up W' hb _ _ _ l1) (rows_over hr hB') (isPols_over hq hB') hin.2

theorem useI {wB W : World} {b o0 o1 q : Nat} {v0 v1 u : Value} (h : W.cell? ⟨b, o0, none⟩ = some v0 ∧ W.cell? ⟨b, o1, none⟩ = some v1 ∧ (W.cell? ⟨q, 0, none⟩ = some u → Below wB.heap.size wB W)) (hq : W.cell? ⟨q, 0, none⟩ = some u) : Below wB.heap.size wB W := h.2.2 hq

theorem keptI {wB W W' : World} {b o0 o1 q : Nat} {v0 v1 u : Value} (h : W.cell? ⟨b, o0, none⟩ = some v0 ∧ W.cell? ⟨b, o1, none⟩ = some v1 ∧ (W.cell? ⟨q, 0, none⟩ = some u → Below wB.heap.size wB W)) (hq : W.cell? ⟨q, 0, none⟩ = some u) (hb : Below W.heap.size W W') : W'.cell? ⟨b, o0, none⟩ = some v0 ∧ W'.cell? ⟨b, o1, none⟩ = some v1 ∧ (W'.cell? ⟨q, 0, none⟩ = some u → Below wB.heap.size wB W') := by
  obtain ⟨h0, h1, h2⟩ := h
  have hB := h2 hq
  obtain ⟨hc, hf⟩ := bcell hb
  exact ⟨by rw [hc _ _ (World.block_lt_of_cell? W _ h0)]; exact h0, by rw [hc _ _ (World.block_lt_of_cell? W _ h1)]; exact h1, fun _ => hB.trans (hb.mono hB.size)⟩

theorem setI {wB W : World} {b o0 o1 q g n : Nat} {v0 v1 u y : Value} (h : W.cell? ⟨b, o0, none⟩ = some v0 ∧ W.cell? ⟨b, o1, none⟩ = some v1 ∧ (W.cell? ⟨q, 0, none⟩ = some (.slice none 0 0) → Below wB.heap.size wB W)) (hb : b ≠ q) (hq : W.cell? ⟨q, 0, none⟩ = some u) :
    ((W.setCell ⟨q, 0, none⟩ (.slice (some ⟨g, 0, none⟩) n n)).setCell ⟨q, 1, none⟩ y).cell? ⟨b, o0, none⟩ = some v0 ∧ ((W.setCell ⟨q, 0, none⟩ (.slice (some ⟨g, 0, none⟩) n n)).setCell ⟨q, 1, none⟩ y).cell? ⟨b, o1, none⟩ = some v1 ∧ (((W.setCell ⟨q, 0, none⟩ (.slice (some ⟨g, 0, none⟩) n n)).setCell ⟨q, 1, none⟩ y).cell? ⟨q, 0, none⟩ = some (.slice none 0 0) → Below wB.heap.size wB ((W.setCell ⟨q, 0, none⟩ (.slice (some ⟨g, 0, none⟩) n n)).setCell ⟨q, 1, none⟩ y)) := by
  obtain ⟨h0, h1, h2⟩ := h
  have hne : ∀ o, ((W.setCell ⟨q, 0, none⟩ (.slice (some ⟨g, 0, none⟩) n n)).setCell ⟨q, 1, none⟩ y).cell? ⟨b, o, none⟩ = W.cell? ⟨b, o, none⟩ := fun o => by
    rw [World.cell?_setCell_other _ _ _ _ (by intro e; injection e with e; exact hb e.symm), World.cell?_setCell_other _ _ _ _ (by intro e; injection e with e; exact hb e.symm)]
  refine ⟨by rw [hne]; exact h0, by rw [hne]; exact h1, fun e => ?_⟩
  rw [World.cell?_setCell_other _ _ _ _ (by simp), World.cell?_setCell_same _ _ _ hq] at e
  cases e

theorem lChk_ok {m : Int} {gs : List (Int × Int)} {bl : Lab} (h : lChk m gs bl = 0) : ∃ n : Nat, m = n ∧ 1 ≤ n ∧ n ≤ 6 ∧ (gnOf gs).map toI = gs ∧ (gnOf gs).length ≤ 20 ∧ (∀ g ∈ gnOf gs, g.1 < n ∧ g.2 < n) ∧ labIn n bl ∧ chkErr m gs = 0 := by
  unfold lChk at h
  split at h
  · rename_i hc
    obtain ⟨n, hm, h1, h2, h3, h4, h5⟩ := chk_ok hc
    subst hm
    exact ⟨n, rfl, h1, h2, h3, h4, h5, labErr_ok h, hc⟩
  · rename_i hc
    exact absurd h hc

set_option maxHeartbeats 4000000 in
theorem levelOk : LevelOk := by
  intro m v gs pr pw bl w hv hp hq
  have HV := hide hv
  have HP := hide hp
  have HQ := hide hq
  obtain ⟨va, vn, vc, rfl⟩ := grants_form hv
  obtain ⟨pa, pn, pc, rfl⟩ := pols_form hp
  obtain ⟨qa, qn, qc, rfl⟩ := pols_form hq
  have hb3 : Below w.heap.size w (((w.alloc (.cells #[.int .i64 m, .slice va vn vc] 35)).alloc (.cells #[.slice pa pn pc, .slice qa qn qc] 102)).alloc (.cells #[.slice none 0 0, .slice none 0 0] 62)) := (((Below.refl _ w).alloc (Nat.le_refl _) _).alloc (by simp) _).alloc (by simp; omega) _
  have hcall := checkOk m (.slice va vn vc) gs (.slice pa pn pc) (.slice qa qn qc) bl _ (isGrants_over HV.out hb3) (isPols_over HP.out hb3) (isPols_over HQ.out hb3)
  have hok := fun h => lChk_ok (m := m) (gs := gs) (bl := bl) h
  obtain ⟨r, hr⟩ : ∃ r, r = lChk m gs bl := ⟨_, rfl⟩
  rw [← hr] at hcall hok ⊢
  have HC := hide hcall
  have HOK := hide hok
  clear hv hp hq hcall hok hr
  go_enter Try.func45, Try.ntmps45
  go_wp2_with fail
  refine (HC.out).mono ?_
  rintro e w1 ⟨rfl, hb1⟩
  have hB1 := hb3.trans (hb1.mono (by simp <;> omega))
  have hz1 := hb1.size
  simp at hz1
  obtain ⟨hc, hf⟩ := bcell hb1
  have a0 : w1.cell? ⟨w.heap.size, 0, none⟩ = some (.int .i64 m) := by rw [hc _ _ (by simp <;> omega)]; simp [go_sem]
  have a1 : w1.cell? ⟨w.heap.size, 1, none⟩ = some (.slice va vn vc) := by rw [hc _ _ (by simp <;> omega)]; simp [go_sem]
  have c0 : w1.cell? ⟨w.heap.size + 1, 0, none⟩ = some (.slice pa pn pc) := by rw [hc _ _ (by simp <;> omega)]; simp [go_sem]
  have c1 : w1.cell? ⟨w.heap.size + 1, 1, none⟩ = some (.slice qa qn qc) := by rw [hc _ _ (by simp <;> omega)]; simp [go_sem]
  have e0 : w1.cell? ⟨w.heap.size + 1 + 1, 0, none⟩ = some (.slice none 0 0) := by rw [hc _ _ (by simp <;> omega)]; simp [go_sem]
  have e1 : w1.cell? ⟨w.heap.size + 1 + 1, 1, none⟩ = some (.slice none 0 0) := by rw [hc _ _ (by simp <;> omega)]; simp [go_sem]
  have f0 : w1.frozen? ⟨w.heap.size + 1 + 1, 0, none⟩ = false := by rw [hf _ _ (by simp <;> omega)]; simp [go_sem]
  have f1 : w1.frozen? ⟨w.heap.size + 1 + 1, 1, none⟩ = false := by rw [hf _ _ (by simp <;> omega)]; simp [go_sem]
  clear hc hf hb1 hb3 HC
  by_cases hr0 : r = 0
  · subst hr0
    obtain ⟨n, hm, h1, h6, hgs, hlen, hgb, hin, hch⟩ := HOK.out (by first | rfl | trivial)
    subst hm
    have hfor := for_ok n h1 h6 (.slice va vn vc) (gnOf gs) w1 (by rw [hgs]; exact isGrants_over HV.out hB1) hlen hgb (by rw [hgs]; exact hch)
    have HFOR := hide hfor
    have HIN := hide hin
    clear hfor hin hgs hlen hgb hch HOK HV
    go_wp2_with fail
    refine (HFOR.out).mono ?_
    rintro e w2 ⟨ob, rfl, hrows, hb2⟩
    obtain ⟨w3, hw3⟩ : ∃ w3, w3 = w2.alloc (.cells #[.slice (some ⟨ob, 0, none⟩) n n] 135) := ⟨_, rfl⟩
    have hb23 : Below w2.heap.size w2 w3 := by rw [hw3]; exact (Below.refl _ w2).alloc (Nat.le_refl _) _
    have hb13 : Below w1.heap.size w1 w3 := hb2.trans (hb23.mono hb2.size)
    have hB3 := hB1.trans (hb13.mono hB1.size)
    have hz3 := hb13.size
    have up : ∀ b o v, w1.cell? ⟨b, o, none⟩ = some v → w3.cell? ⟨b, o, none⟩ = some v := fun b o v h => by rw [(bcell hb13).1 _ _ (World.block_lt_of_cell? w1 _ h)]; exact h
    have hab : w3.cell? ⟨w2.heap.size, 0, none⟩ = some (.slice (some ⟨ob, 0, none⟩) n n) := by rw [hw3]; simp [go_sem]
    have KT := hide fun (W : World) (hB : Below w3.heap.size w3 W) => levelClosure n h1 h6 w2.heap.size (w.heap.size + 1) ob (gnOf gs) (.slice va vn vc) _ _ bl w3 hab (up _ _ _ c0) (up _ _ _ c1) (rows_over hrows hb23) (isPols_over HP.out hB3) (isPols_over HQ.out hB3) HIN.out W hB
    have b0 := up _ _ _ a0
    have b1 := up _ _ _ a1
    have E0 := hide (up _ _ _ e0)
    have E1 := hide (up _ _ _ e1)
    have F0 : Hid (w3.frozen? ⟨w.heap.size + 1 + 1, 0, none⟩ = false) := by rw [(bcell hb13).2 _ _ (World.block_lt_of_cell? w1 _ e0)]; exact f0
    have F1 : Hid (w3.frozen? ⟨w.heap.size + 1 + 1, 1, none⟩ = false) := by rw [(bcell hb13).2 _ _ (World.block_lt_of_cell? w1 _ e0)]; exact f1
    have HZ4 : Hid (w.heap.size + 1 + 1 < w3.heap.size) := by show _ < _; omega
    have HNE : Hid (w.heap.size ≠ w.heap.size + 1 + 1) := by show _ ≠ _; omega
    have HW3 := hide hw3
    have ED : Hid (w3.drew.cell? ⟨w.heap.size + 1 + 1, 0, none⟩ = some (.slice none 0 0)) := E0.out
    clear a0 a1 c0 c1 e0 e1 f0 f1 hab up hrows hb2 hb23 hb13 hw3 HP HQ HIN HFOR hB1
    go_wp2_with fail
    rw [← HW3.out]
    clear HW3
    first | go_region_held3 (fun W => W.cell? ⟨w.heap.size, 0, none⟩ = some (.int .i64 n) ∧ W.cell? ⟨w.heap.size, 1, none⟩ = some (.slice va vn vc) ∧ (W.cell? ⟨w.heap.size + 1 + 1, 0, none⟩ = some (.slice none 0 0) → Below w3.heap.size w3 W)) (first | assumption | exact ⟨b0, b1, fun _ => below_drewN (Below.refl _ _) 1⟩ | exact keptI (by assumption) ep0 hbq | exact keptI (by assumption) ED.out hbp | exact setI (by assumption) HNE.out eq0 | fail) (first | (go_at_call 80; have hsec := ep0; refine (KT.out _ (useI (by assumption) ep0)).2.mono ?_; rintro e wq ⟨g2, rfl, hg2, hg2', ho2, hbq⟩; have eq0 : wq.cell? ⟨w.heap.size + 1 + 1, 0, none⟩ = some (.slice none 0 0) := (by rw [(bcell hbq).1 _ _ (World.block_lt_of_cell? wp _ ep0)]; exact ep0); have eq1 : wq.cell? ⟨w.heap.size + 1 + 1, 1, none⟩ = some (.slice none 0 0) := (by rw [(bcell hbq).1 _ _ (World.block_lt_of_cell? wp _ ep0)]; exact ep1); have fq0 : wq.frozen? ⟨w.heap.size + 1 + 1, 0, none⟩ = false := (by rw [(bcell hbq).2 _ _ (World.block_lt_of_cell? wp _ ep0)]; exact fp0); have fq1 : wq.frozen? ⟨w.heap.size + 1 + 1, 1, none⟩ = false := (by rw [(bcell hbq).2 _ _ (World.block_lt_of_cell? wp _ ep0)]; exact fp1)) | (go_at_call 80; refine (KT.out _ (useI (by assumption) ED.out)).1.mono ?_; rintro e wp ⟨g1, rfl, hg1, hg1', ho1, hbp⟩; have ep0 : wp.cell? ⟨w.heap.size + 1 + 1, 0, none⟩ = some (.slice none 0 0) := (by rw [(bcell hbp).1 _ _ HZ4.out]; exact E0.out); have ep1 : wp.cell? ⟨w.heap.size + 1 + 1, 1, none⟩ = some (.slice none 0 0) := (by rw [(bcell hbp).1 _ _ HZ4.out]; exact E1.out); have fp0 : wp.frozen? ⟨w.heap.size + 1 + 1, 0, none⟩ = false := (by rw [(bcell hbp).2 _ _ HZ4.out]; exact F0.out); have fp1 : wp.frozen? ⟨w.heap.size + 1 + 1, 1, none⟩ = false := (by rw [(bcell hbp).2 _ _ HZ4.out]; exact F1.out))) | fail
    all_goals go_wp2_with fail
    all_goals
      refine bodyPost_ret (v := .tuple #[.agg #[.slice (some ⟨g1, 0, none⟩) n n, .slice (some ⟨g2, 0, none⟩) n n], .int .i64 0]) (by simp [results, Try.results45, go_sem, eq0, eq1]) rfl ⟨_, rfl, fresh_pair (w := w) (wa := w3.drew) (q := w.heap.size + 1 + 1) (f1 := fun i => mayB (gnOf gs) n i bl.r) (f2 := fun i => mayB (gnOf gs) n i bl.w) hB3.size HZ4.out ho1 hg1' hbp.size ho2 hbq hg2 _ _, ?_⟩
      have hd1 : Below w.heap.size w w3.drew := below_drewN hB3 1
      have hd2 := hd1.trans (hbp.mono hd1.size)
      have hd3 := hd2.trans (hbq.mono hd2.size)
      exact (hd3.setCell (by simp; omega) _).setCell (by simp; omega) _
  · have hne : (r != 0) = true := by simpa using hr0
    go_wp2_with fail
    exact bodyPost_ret (v := .tuple #[.agg #[.slice none 0 0, .slice none 0 0], .int .i64 r]) (by simp [results, Try.results45, go_sem, e0, e1]) rfl ⟨_, rfl, fresh_none _ _, (hB1.setCell (by simp; omega) _).setCell (by simp; omega) _⟩
end Go.Proofs.Ytcbbjjenkommeaa
namespace Go.Proofs.Ytcbbjjenkommeaa.Ex
open Go.RowKit
set_option linter.unusedVariables false
theorem own_low {w : World} {B B' e s : Nat} {v : Value} {n : Nat} {xs : List Value} (h : w.ownsRow B e s v n xs) (hb : B' ≤ B) : w.ownsRow B' e s v n xs := by
  obtain ⟨h1, h | ⟨g, cap, cur, h2, h3, h4⟩⟩ := h
  · exact ⟨h1, Or.inl h⟩
  · exact ⟨h1, Or.inr ⟨g, cap, cur, h2, Nat.le_trans hb h3, h4⟩⟩
theorem own_form {w : World} {B e s : Nat} {v : Value} {n : Nat} {xs : List Value} (h : w.ownsRow B e s v n xs) : ∃ a n c, v = .slice a n c := by
  obtain ⟨h1, ⟨h, _⟩ | ⟨g, cap, cur, h2, h3, h4⟩⟩ := h
  · exact ⟨_, _, _, h⟩
  · exact ⟨_, _, _, h2⟩

set_option maxHeartbeats 2000000 in
set_option maxRecDepth 100000 in
theorem flowsW (m : Int) (ga : Option Addr) (gn gc : Nat) (sa : Option Addr) (sn sc : Nat) (ya : Option Addr) (yn yc : Nat) (oa : Option Addr) (on oc : Nat) (va : Option Addr) (vn vc : Nat) (fa : Option Addr) (fn fc : Nat) (ba : Option Addr) (bn bc : Nat) (la : Option Addr) (ln lc : Nat) (ka : Option Addr) (kn kc : Nat) (gs : List (Int × Int)) (lr lw kr kw : Value) (l k : Lev) (w : World) (hg : IsGrants w (.slice ga gn gc) gs) (hl : LevAt w (.agg #[lr, lw]) l) (hk : LevAt w (.agg #[kr, kw]) k) (h2 : lTwo m gs l k = 0) :
    Calls Try.prog 40 #[.agg #[.int .i64 m, .slice ga gn gc, .slice sa sn sc, .slice ya yn yc, .slice oa on oc, .slice va vn vc, .slice fa fn fc, .slice ba bn bc, .slice la ln lc, .slice ka kn kc], .agg #[lr, lw], .agg #[kr, kw]] w fun e w' => e = .returned (.bool (flowsB l k m.toNat)) ∧ Below w.heap.size w w' := by
  have hbel : Below w.heap.size w (((w.alloc (.cells #[.int .i64 m, .slice ga gn gc, .slice sa sn sc, .slice ya yn yc, .slice oa on oc, .slice va vn vc, .slice fa fn fc, .slice ba bn bc, .slice la ln lc, .slice ka kn kc] 86)).alloc (.cells #[lr, lw] 62)).alloc (.cells #[kr, kw] 62)) := (((Below.refl _ w).alloc (Nat.le_refl _) _).alloc (by simp) _).alloc (by simp; omega) _
  have K := hide (flowsOk m (.slice ga gn gc) gs (.agg #[lr, lw]) (.agg #[kr, kw]) l k _ (isGrants_over hg hbel) (levAt_over hl hbel) (levAt_over hk hbel))
  rw [h2] at K
  obtain ⟨a1, n1, c1', rfl⟩ : ∃ a n c, lr = .slice a n c := by obtain ⟨x, y, e, ⟨a, c, e2, -⟩, -⟩ := hl; simp at e; obtain ⟨rfl, rfl⟩ := e; exact ⟨_, _, _, e2⟩
  obtain ⟨a2, n2, c2', rfl⟩ : ∃ a n c, lw = .slice a n c := by obtain ⟨x, y, e, -, ⟨a, c, e2, -⟩⟩ := hl; simp at e; obtain ⟨rfl, rfl⟩ := e; exact ⟨_, _, _, e2⟩
  obtain ⟨a3, n3, c3', rfl⟩ : ∃ a n c, kr = .slice a n c := by obtain ⟨x, y, e, ⟨a, c, e2, -⟩, -⟩ := hk; simp at e; obtain ⟨rfl, rfl⟩ := e; exact ⟨_, _, _, e2⟩
  obtain ⟨a4, n4, c4', rfl⟩ : ∃ a n c, kw = .slice a n c := by obtain ⟨x, y, e, -, ⟨a, c, e2, -⟩⟩ := hk; simp at e; obtain ⟨rfl, rfl⟩ := e; exact ⟨_, _, _, e2⟩
  have c0 : (((w.alloc (.cells #[.int .i64 m, .slice ga gn gc, .slice sa sn sc, .slice ya yn yc, .slice oa on oc, .slice va vn vc, .slice fa fn fc, .slice ba bn bc, .slice la ln lc, .slice ka kn kc] 86)).alloc (.cells #[.slice a1 n1 c1', .slice a2 n2 c2'] 62)).alloc (.cells #[.slice a3 n3 c3', .slice a4 n4 c4'] 62)).cell? ⟨w.heap.size, 0, none⟩ = some (.int .i64 m) := by simp [go_sem]
  have c1 : (((w.alloc (.cells #[.int .i64 m, .slice ga gn gc, .slice sa sn sc, .slice ya yn yc, .slice oa on oc, .slice va vn vc, .slice fa fn fc, .slice ba bn bc, .slice la ln lc, .slice ka kn kc] 86)).alloc (.cells #[.slice a1 n1 c1', .slice a2 n2 c2'] 62)).alloc (.cells #[.slice a3 n3 c3', .slice a4 n4 c4'] 62)).cell? ⟨w.heap.size, 1, none⟩ = some (.slice ga gn gc) := by simp [go_sem]
  have d0 : (((w.alloc (.cells #[.int .i64 m, .slice ga gn gc, .slice sa sn sc, .slice ya yn yc, .slice oa on oc, .slice va vn vc, .slice fa fn fc, .slice ba bn bc, .slice la ln lc, .slice ka kn kc] 86)).alloc (.cells #[.slice a1 n1 c1', .slice a2 n2 c2'] 62)).alloc (.cells #[.slice a3 n3 c3', .slice a4 n4 c4'] 62)).cell? ⟨w.heap.size + 1, 0, none⟩ = some (.slice a1 n1 c1') := by simp [go_sem]
  have d1 : (((w.alloc (.cells #[.int .i64 m, .slice ga gn gc, .slice sa sn sc, .slice ya yn yc, .slice oa on oc, .slice va vn vc, .slice fa fn fc, .slice ba bn bc, .slice la ln lc, .slice ka kn kc] 86)).alloc (.cells #[.slice a1 n1 c1', .slice a2 n2 c2'] 62)).alloc (.cells #[.slice a3 n3 c3', .slice a4 n4 c4'] 62)).cell? ⟨w.heap.size + 1, 1, none⟩ = some (.slice a2 n2 c2') := by simp [go_sem]
  have e0 : (((w.alloc (.cells #[.int .i64 m, .slice ga gn gc, .slice sa sn sc, .slice ya yn yc, .slice oa on oc, .slice va vn vc, .slice fa fn fc, .slice ba bn bc, .slice la ln lc, .slice ka kn kc] 86)).alloc (.cells #[.slice a1 n1 c1', .slice a2 n2 c2'] 62)).alloc (.cells #[.slice a3 n3 c3', .slice a4 n4 c4'] 62)).cell? ⟨w.heap.size + 1 + 1, 0, none⟩ = some (.slice a3 n3 c3') := by simp [go_sem]
  have e1 : (((w.alloc (.cells #[.int .i64 m, .slice ga gn gc, .slice sa sn sc, .slice ya yn yc, .slice oa on oc, .slice va vn vc, .slice fa fn fc, .slice ba bn bc, .slice la ln lc, .slice ka kn kc] 86)).alloc (.cells #[.slice a1 n1 c1', .slice a2 n2 c2'] 62)).alloc (.cells #[.slice a3 n3 c3', .slice a4 n4 c4'] 62)).cell? ⟨w.heap.size + 1 + 1, 1, none⟩ = some (.slice a4 n4 c4') := by simp [go_sem]
  clear hg hl hk h2
  go_enter Try.func40, Try.ntmps40
  go_wp2_with fail
  refine (K.out).mono ?_
  rintro e w1 ⟨rfl, hb1⟩
  have hB1 := hbel.trans (hb1.mono (by simp <;> omega))
  clear K c0 c1 d0 d1 e0 e1
  go_wp2_with fail
  exact bodyPost_ret (v := .bool (flowsB l k m.toNat)) (by simp [results, Try.results40, go_sem]) rfl ⟨rfl, hB1⟩

set_option maxHeartbeats 2000000 in
set_option maxRecDepth 100000 in
theorem joinW (m : Int) (ga : Option Addr) (gn gc : Nat) (sa : Option Addr) (sn sc : Nat) (ya : Option Addr) (yn yc : Nat) (oa : Option Addr) (on oc : Nat) (va : Option Addr) (vn vc : Nat) (fa : Option Addr) (fn fc : Nat) (ba : Option Addr) (bn bc : Nat) (la : Option Addr) (ln lc : Nat) (ka : Option Addr) (kn kc : Nat) (gs : List (Int × Int)) (lr lw kr kw : Value) (l k : Lev) (w : World) (hg : IsGrants w (.slice ga gn gc) gs) (hl : LevAt w (.agg #[lr, lw]) l) (hk : LevAt w (.agg #[kr, kw]) k) (h2 : lTwo m gs l k = 0) :
    Calls Try.prog 41 #[.agg #[.int .i64 m, .slice ga gn gc, .slice sa sn sc, .slice ya yn yc, .slice oa on oc, .slice va vn vc, .slice fa fn fc, .slice ba bn bc, .slice la ln lc, .slice ka kn kc], .agg #[lr, lw], .agg #[kr, kw]] w fun e w' => ∃ vj, e = .returned vj ∧ LevFresh w w' vj (joinL l k m.toNat) ∧ Below w.heap.size w w' := by
  have hbel : Below w.heap.size w ((((w.alloc (.cells #[.int .i64 m, .slice ga gn gc, .slice sa sn sc, .slice ya yn yc, .slice oa on oc, .slice va vn vc, .slice fa fn fc, .slice ba bn bc, .slice la ln lc, .slice ka kn kc] 86)).alloc (.cells #[lr, lw] 62)).alloc (.cells #[kr, kw] 62)).alloc (.cells #[.slice none 0 0, .slice none 0 0] 62)) := ((((Below.refl _ w).alloc (Nat.le_refl _) _).alloc (by simp) _).alloc (by simp; omega) _).alloc (by simp; omega) _
  have K := hide (joinOk m (.slice ga gn gc) gs (.agg #[lr, lw]) (.agg #[kr, kw]) l k _ (isGrants_over hg hbel) (levAt_over hl hbel) (levAt_over hk hbel))
  rw [h2] at K
  obtain ⟨a1, n1, c1', rfl⟩ : ∃ a n c, lr = .slice a n c := by obtain ⟨x, y, e, ⟨a, c, e2, -⟩, -⟩ := hl; simp at e; obtain ⟨rfl, rfl⟩ := e; exact ⟨_, _, _, e2⟩
  obtain ⟨a2, n2, c2', rfl⟩ : ∃ a n c, lw = .slice a n c := by obtain ⟨x, y, e, -, ⟨a, c, e2, -⟩⟩ := hl; simp at e; obtain ⟨rfl, rfl⟩ := e; exact ⟨_, _, _, e2⟩
  obtain ⟨a3, n3, c3', rfl⟩ : ∃ a n c, kr = .slice a n c := by obtain ⟨x, y, e, ⟨a, c, e2, -⟩, -⟩ := hk; simp at e; obtain ⟨rfl, rfl⟩ := e; exact ⟨_, _, _, e2⟩
  obtain ⟨a4, n4, c4', rfl⟩ : ∃ a n c, kw = .slice a n c := by obtain ⟨x, y, e, -, ⟨a, c, e2, -⟩⟩ := hk; simp at e; obtain ⟨rfl, rfl⟩ := e; exact ⟨_, _, _, e2⟩
  have c0 : (((w.alloc (.cells #[.int .i64 m, .slice ga gn gc, .slice sa sn sc, .slice ya yn yc, .slice oa on oc, .slice va vn vc, .slice fa fn fc, .slice ba bn bc, .slice la ln lc, .slice ka kn kc] 86)).alloc (.cells #[.slice a1 n1 c1', .slice a2 n2 c2'] 62)).alloc (.cells #[.slice a3 n3 c3', .slice a4 n4 c4'] 62)).cell? ⟨w.heap.size, 0, none⟩ = some (.int .i64 m) := by simp [go_sem]
  have c1 : (((w.alloc (.cells #[.int .i64 m, .slice ga gn gc, .slice sa sn sc, .slice ya yn yc, .slice oa on oc, .slice va vn vc, .slice fa fn fc, .slice ba bn bc, .slice la ln lc, .slice ka kn kc] 86)).alloc (.cells #[.slice a1 n1 c1', .slice a2 n2 c2'] 62)).alloc (.cells #[.slice a3 n3 c3', .slice a4 n4 c4'] 62)).cell? ⟨w.heap.size, 1, none⟩ = some (.slice ga gn gc) := by simp [go_sem]
  have d0 : (((w.alloc (.cells #[.int .i64 m, .slice ga gn gc, .slice sa sn sc, .slice ya yn yc, .slice oa on oc, .slice va vn vc, .slice fa fn fc, .slice ba bn bc, .slice la ln lc, .slice ka kn kc] 86)).alloc (.cells #[.slice a1 n1 c1', .slice a2 n2 c2'] 62)).alloc (.cells #[.slice a3 n3 c3', .slice a4 n4 c4'] 62)).cell? ⟨w.heap.size + 1, 0, none⟩ = some (.slice a1 n1 c1') := by simp [go_sem]
  have d1 : (((w.alloc (.cells #[.int .i64 m, .slice ga gn gc, .slice sa sn sc, .slice ya yn yc, .slice oa on oc, .slice va vn vc, .slice fa fn fc, .slice ba bn bc, .slice la ln lc, .slice ka kn kc] 86)).alloc (.cells #[.slice a1 n1 c1', .slice a2 n2 c2'] 62)).alloc (.cells #[.slice a3 n3 c3', .slice a4 n4 c4'] 62)).cell? ⟨w.heap.size + 1, 1, none⟩ = some (.slice a2 n2 c2') := by simp [go_sem]
  have e0 : (((w.alloc (.cells #[.int .i64 m, .slice ga gn gc, .slice sa sn sc, .slice ya yn yc, .slice oa on oc, .slice va vn vc, .slice fa fn fc, .slice ba bn bc, .slice la ln lc, .slice ka kn kc] 86)).alloc (.cells #[.slice a1 n1 c1', .slice a2 n2 c2'] 62)).alloc (.cells #[.slice a3 n3 c3', .slice a4 n4 c4'] 62)).cell? ⟨w.heap.size + 1 + 1, 0, none⟩ = some (.slice a3 n3 c3') := by simp [go_sem]
  have e1 : (((w.alloc (.cells #[.int .i64 m, .slice ga gn gc, .slice sa sn sc, .slice ya yn yc, .slice oa on oc, .slice va vn vc, .slice fa fn fc, .slice ba bn bc, .slice la ln lc, .slice ka kn kc] 86)).alloc (.cells #[.slice a1 n1 c1', .slice a2 n2 c2'] 62)).alloc (.cells #[.slice a3 n3 c3', .slice a4 n4 c4'] 62)).cell? ⟨w.heap.size + 1 + 1, 1, none⟩ = some (.slice a4 n4 c4') := by simp [go_sem]
  clear hg hl hk h2
  go_enter Try.func41, Try.ntmps41
  go_wp2_with fail
  refine (K.out).mono ?_
  rintro e w1 ⟨vj, rfl, hf, hb1⟩
  rw [if_pos trivial] at hf
  have hB1 := hbel.trans (hb1.mono (by simp <;> omega))
  obtain ⟨vr, vw, rfl, hr, hw, hap⟩ := hf
  have hr1 := own_low (B' := w.heap.size + 1 + 1 + 1 + 1) hr (by simp)
  have hw1 := own_low (B' := w.heap.size + 1 + 1 + 1 + 1) hw (by simp)
  obtain ⟨p1, q1, r1, rfl⟩ := own_form hr1
  obtain ⟨p2, q2, r2, rfl⟩ := own_form hw1
  have hbz : Below w1.heap.size w1 (w1.alloc (.cells #[.slice p1 q1 r1, .slice p2 q2 r2] 62)) := (Below.refl _ w1).alloc (Nat.le_refl _) _
  have hlt : w.heap.size + 1 + 1 + 1 < w1.heap.size := by have := hb1.size; simp at this; omega
  obtain ⟨hc, hfr⟩ := bcell hb1
  obtain ⟨hc2, hfr2⟩ := bcell hbz
  have x0 : (w1.alloc (.cells #[.slice p1 q1 r1, .slice p2 q2 r2] 62)).cell? ⟨w.heap.size + 1 + 1 + 1, 0, none⟩ = some (.slice none 0 0) := by rw [hc2 _ _ (by first | omega | (simp <;> omega)), hc _ _ (by first | omega | (simp <;> omega))]; simp [go_sem]
  have x1 : (w1.alloc (.cells #[.slice p1 q1 r1, .slice p2 q2 r2] 62)).cell? ⟨w.heap.size + 1 + 1 + 1, 1, none⟩ = some (.slice none 0 0) := by rw [hc2 _ _ (by first | omega | (simp <;> omega)), hc _ _ (by first | omega | (simp <;> omega))]; simp [go_sem]
  have f0 : (w1.alloc (.cells #[.slice p1 q1 r1, .slice p2 q2 r2] 62)).frozen? ⟨w.heap.size + 1 + 1 + 1, 0, none⟩ = false := by rw [hfr2 _ _ (by first | omega | (simp <;> omega)), hfr _ _ (by first | omega | (simp <;> omega))]; simp [go_sem]
  have f1 : (w1.alloc (.cells #[.slice p1 q1 r1, .slice p2 q2 r2] 62)).frozen? ⟨w.heap.size + 1 + 1 + 1, 1, none⟩ = false := by rw [hfr2 _ _ (by first | omega | (simp <;> omega)), hfr _ _ (by first | omega | (simp <;> omega))]; simp [go_sem]
  have HR := hide (ownB_over hr1 hbz)
  have HW := hide (ownB_over hw1 hbz)
  have HB := hide (hB1.trans (hbz.mono hB1.size))
  have HAP := hide hap
  have HLT := hide hlt
  clear K c0 c1 d0 d1 e0 e1 hr hw hr1 hw1 hap hc hfr hc2 hfr2 hb1 hB1 hbel hlt hbz
  go_wp2_with fail
  exact bodyPost_ret (v := .agg #[.slice p1 q1 r1, .slice p2 q2 r2]) (by simp [results, Try.results41, go_sem, x0, x1]) rfl ⟨_, rfl, ⟨_, _, rfl, own_low (ownB_set (ownB_set HR.out (by simp) _) (by simp) _) (by omega), own_low (ownB_set (ownB_set HW.out (by simp) _) (by simp) _) (by omega), HAP.out⟩, (HB.out.setCell (by simp; omega) _).setCell (by simp; omega) _⟩

set_option maxHeartbeats 2000000 in
set_option maxRecDepth 100000 in
theorem levelW (m : Int) (ga : Option Addr) (gn gc : Nat) (sa : Option Addr) (sn sc : Nat) (ya : Option Addr) (yn yc : Nat) (oa : Option Addr) (on oc : Nat) (va : Option Addr) (vn vc : Nat) (fa : Option Addr) (fn fc : Nat) (ba : Option Addr) (bn bc : Nat) (la : Option Addr) (ln lc : Nat) (ka : Option Addr) (kn kc : Nat) (gs : List (Int × Int)) (pr pw : Value) (bl : Lab) (w : World) (hg : IsGrants w (.slice ga gn gc) gs) (hl : IsPols w pr bl.r) (hk : IsPols w pw bl.w) (h2 : lChk m gs bl = 0) :
    Calls Try.prog 74 #[.agg #[.int .i64 m, .slice ga gn gc, .slice sa sn sc, .slice ya yn yc, .slice oa on oc, .slice va vn vc, .slice fa fn fc, .slice ba bn bc, .slice la ln lc, .slice ka kn kc], .agg #[pr, pw]] w fun e w' => ∃ vj, e = .returned vj ∧ LevFresh w w' vj (levOf (gnOf gs) m.toNat bl) ∧ Below w.heap.size w w' := by
  obtain ⟨a1, n1, z1, rfl⟩ := pols_form hl
  obtain ⟨a2, n2, z2, rfl⟩ := pols_form hk
  have hbel : Below w.heap.size w (((w.alloc (.cells #[.int .i64 m, .slice ga gn gc, .slice sa sn sc, .slice ya yn yc, .slice oa on oc, .slice va vn vc, .slice fa fn fc, .slice ba bn bc, .slice la ln lc, .slice ka kn kc] 86)).alloc (.cells #[.slice a1 n1 z1, .slice a2 n2 z2] 102)).alloc (.cells #[.slice none 0 0, .slice none 0 0] 62)) := (((Below.refl _ w).alloc (Nat.le_refl _) _).alloc (by simp) _).alloc (by simp; omega) _
  have K := hide (levelOk m (.slice ga gn gc) gs (.slice a1 n1 z1) (.slice a2 n2 z2) bl _ (isGrants_over hg hbel) (isPols_over hl hbel) (isPols_over hk hbel))
  rw [h2] at K
  have c0 : (((w.alloc (.cells #[.int .i64 m, .slice ga gn gc, .slice sa sn sc, .slice ya yn yc, .slice oa on oc, .slice va vn vc, .slice fa fn fc, .slice ba bn bc, .slice la ln lc, .slice ka kn kc] 86)).alloc (.cells #[.slice a1 n1 z1, .slice a2 n2 z2] 102)).alloc (.cells #[.slice none 0 0, .slice none 0 0] 62)).cell? ⟨w.heap.size, 0, none⟩ = some (.int .i64 m) := by simp [go_sem]
  have c1 : (((w.alloc (.cells #[.int .i64 m, .slice ga gn gc, .slice sa sn sc, .slice ya yn yc, .slice oa on oc, .slice va vn vc, .slice fa fn fc, .slice ba bn bc, .slice la ln lc, .slice ka kn kc] 86)).alloc (.cells #[.slice a1 n1 z1, .slice a2 n2 z2] 102)).alloc (.cells #[.slice none 0 0, .slice none 0 0] 62)).cell? ⟨w.heap.size, 1, none⟩ = some (.slice ga gn gc) := by simp [go_sem]
  have d0 : (((w.alloc (.cells #[.int .i64 m, .slice ga gn gc, .slice sa sn sc, .slice ya yn yc, .slice oa on oc, .slice va vn vc, .slice fa fn fc, .slice ba bn bc, .slice la ln lc, .slice ka kn kc] 86)).alloc (.cells #[.slice a1 n1 z1, .slice a2 n2 z2] 102)).alloc (.cells #[.slice none 0 0, .slice none 0 0] 62)).cell? ⟨w.heap.size + 1, 0, none⟩ = some (.slice a1 n1 z1) := by simp [go_sem]
  have d1 : (((w.alloc (.cells #[.int .i64 m, .slice ga gn gc, .slice sa sn sc, .slice ya yn yc, .slice oa on oc, .slice va vn vc, .slice fa fn fc, .slice ba bn bc, .slice la ln lc, .slice ka kn kc] 86)).alloc (.cells #[.slice a1 n1 z1, .slice a2 n2 z2] 102)).alloc (.cells #[.slice none 0 0, .slice none 0 0] 62)).cell? ⟨w.heap.size + 1, 1, none⟩ = some (.slice a2 n2 z2) := by simp [go_sem]
  clear hg hl hk h2
  go_enter Try.func74, Try.ntmps74
  go_wp2_with fail
  refine (K.out).mono ?_
  rintro e w1 ⟨vj, rfl, hf, hb1⟩
  rw [if_pos trivial] at hf
  have hB1 := hbel.trans (hb1.mono (by simp <;> omega))
  obtain ⟨vr, vw, rfl, hr, hw, hap⟩ := hf
  have hr1 := own_low (B' := w.heap.size + 1 + 1 + 1) hr (by simp)
  have hw1 := own_low (B' := w.heap.size + 1 + 1 + 1) hw (by simp)
  obtain ⟨p1, q1, r1, rfl⟩ := own_form hr1
  obtain ⟨p2, q2, r2, rfl⟩ := own_form hw1
  have hbz : Below w1.heap.size w1 (w1.alloc (.cells #[.slice p1 q1 r1, .slice p2 q2 r2] 62)) := (Below.refl _ w1).alloc (Nat.le_refl _) _
  have hlt : w.heap.size + 1 + 1 < w1.heap.size := by have := hb1.size; simp at this; omega
  obtain ⟨hc, hfr⟩ := bcell hb1
  obtain ⟨hc2, hfr2⟩ := bcell hbz
  have x0 : (w1.alloc (.cells #[.slice p1 q1 r1, .slice p2 q2 r2] 62)).cell? ⟨w.heap.size + 1 + 1, 0, none⟩ = some (.slice none 0 0) := by rw [hc2 _ _ (by first | omega | (simp <;> omega)), hc _ _ (by first | omega | (simp <;> omega))]; simp [go_sem]
  have x1 : (w1.alloc (.cells #[.slice p1 q1 r1, .slice p2 q2 r2] 62)).cell? ⟨w.heap.size + 1 + 1, 1, none⟩ = some (.slice none 0 0) := by rw [hc2 _ _ (by first | omega | (simp <;> omega)), hc _ _ (by first | omega | (simp <;> omega))]; simp [go_sem]
  have f0 : (w1.alloc (.cells #[.slice p1 q1 r1, .slice p2 q2 r2] 62)).frozen? ⟨w.heap.size + 1 + 1, 0, none⟩ = false := by rw [hfr2 _ _ (by first | omega | (simp <;> omega)), hfr _ _ (by first | omega | (simp <;> omega))]; simp [go_sem]
  have f1 : (w1.alloc (.cells #[.slice p1 q1 r1, .slice p2 q2 r2] 62)).frozen? ⟨w.heap.size + 1 + 1, 1, none⟩ = false := by rw [hfr2 _ _ (by first | omega | (simp <;> omega)), hfr _ _ (by first | omega | (simp <;> omega))]; simp [go_sem]
  have HR := hide (ownB_over hr1 hbz)
  have HW := hide (ownB_over hw1 hbz)
  have HB := hide (hB1.trans (hbz.mono hB1.size))
  have HAP := hide hap
  have HLT := hide hlt
  clear K c0 c1 d0 d1 hr hw hr1 hw1 hap hc hfr hc2 hfr2 hb1 hB1 hbel hlt hbz
  go_wp2_with fail
  exact bodyPost_ret (v := .agg #[.slice p1 q1 r1, .slice p2 q2 r2]) (by simp [results, Try.results74, go_sem, x0, x1]) rfl ⟨_, rfl, ⟨_, _, rfl, own_low (ownB_set (ownB_set HR.out (by simp) _) (by simp) _) (by omega), own_low (ownB_set (ownB_set HW.out (by simp) _) (by simp) _) (by omega), HAP.out⟩, (HB.out.setCell (by simp; omega) _).setCell (by simp; omega) _⟩
end Go.Proofs.Ytcbbjjenkommeaa.Ex

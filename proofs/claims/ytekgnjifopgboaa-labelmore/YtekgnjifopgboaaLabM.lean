/- Package label: Join and Meet keep their contracts. -/
import Derived.Test.YtekgnjifopgboaaLabJ
import Derived.Deep.RegionHeld3
import Derived.Deep.DrawnRows
namespace Go.Proofs.Ytekgnjifopgboaa
open Go.RowKit
set_option linter.unusedVariables false
attribute [local go_sem ↓] Go.wp_at_zero Go.wp_at_succ

theorem kept2 {B : Nat} {wB W W' : World} {b o0 o1 : Nat} {v0 v1 : Value} (h : W.cell? ⟨b, o0, none⟩ = some v0 ∧ W.cell? ⟨b, o1, none⟩ = some v1 ∧ Below B wB W) (hb : Below W.heap.size W W') (hB : B ≤ wB.heap.size) : W'.cell? ⟨b, o0, none⟩ = some v0 ∧ W'.cell? ⟨b, o1, none⟩ = some v1 ∧ Below B wB W' := by
  obtain ⟨h0, h1, h2⟩ := h
  obtain ⟨hc, hf⟩ := bcell hb
  exact ⟨by rw [hc _ _ (World.block_lt_of_cell? W _ h0)]; exact h0, by rw [hc _ _ (World.block_lt_of_cell? W _ h1)]; exact h1, h2.trans (hb.mono (Nat.le_trans hB h2.size))⟩

theorem set2 {B : Nat} {wB W : World} {b o0 o1 : Nat} {v0 v1 : Value} (h : W.cell? ⟨b, o0, none⟩ = some v0 ∧ W.cell? ⟨b, o1, none⟩ = some v1 ∧ Below B wB W) (hb : b < B) {p : Addr} (hp : B ≤ p.block) (u : Value) : (W.setCell p u).cell? ⟨b, o0, none⟩ = some v0 ∧ (W.setCell p u).cell? ⟨b, o1, none⟩ = some v1 ∧ Below B wB (W.setCell p u) := by
  obtain ⟨h0, h1, h2⟩ := h
  have hne : ∀ o, (W.setCell p u).cell? ⟨b, o, none⟩ = W.cell? ⟨b, o, none⟩ := fun o => World.cell?_setCell_other _ _ _ _ (by rintro rfl; simp at hp; omega)
  exact ⟨by rw [hne]; exact h0, by rw [hne]; exact h1, h2.setCell hp u⟩

/-- a level of two new lists, stored in its place. -/
theorem fresh_pair {w wa wp wq : World} {g1 g2 n q : Nat} {f1 f2 : Nat → Bool} (hw : w.heap.size ≤ wa.heap.size) (hq : q < wa.heap.size)
    (h1 : wp.ownsRow wa.heap.size 4 1 (.slice (some ⟨g1, 0, none⟩) n n) n (boolCells (rowOf f1 n))) (hl1 : g1 < wp.heap.size) (hz : wa.heap.size ≤ wp.heap.size)
    (h2 : wq.ownsRow wp.heap.size 4 1 (.slice (some ⟨g2, 0, none⟩) n n) n (boolCells (rowOf f2 n))) (hb : Below wp.heap.size wp wq) (hg2 : wp.heap.size ≤ g2) (u0 u1 : Value) :
    LevFresh w ((wq.setCell ⟨q, 0, none⟩ u0).setCell ⟨q, 1, none⟩ u1) (.agg #[.slice (some ⟨g1, 0, none⟩) n n, .slice (some ⟨g2, 0, none⟩) n n]) ⟨rowOf f1 n, rowOf f2 n⟩ := by
  refine ⟨_, _, rfl, ?_, ?_, Or.inr ?_⟩
  · rw [rowOf_length]
    exact ownB_base (ownB_set (ownB_set (ownB_over h1 hb) (by simpa using hq) _) (by simpa using hq) _) hw
  · rw [rowOf_length]
    exact ownB_base (ownB_set (ownB_set h2 (by simp; omega) _) (by simp; omega) _) (Nat.le_trans hw hz)
  · simp [Value.ownBlock]
    omega

theorem fresh_none (w W : World) : LevFresh w W (.agg #[.slice none 0 0, .slice none 0 0]) noLev :=
  ⟨_, _, rfl, World.ownsRow_nil _ _ _ _, World.ownsRow_nil _ _ _ _, Or.inl rfl⟩

theorem joinClosure (w : World) (n : Nat) (h1 : 1 ≤ n) (hn : n ≤ 6) (x y z u v : Value) (l k : Lev) (hl : LevAt w (.agg #[x, y]) l) (hk : LevAt w (.agg #[z, u]) k) (hln : l.len n) (hkn : k.len n) (W : World) (hB : Below w.heap.size w W) (hz : w.heap.size + 3 ≤ W.heap.size)
    (c0 : W.cell? ⟨w.heap.size + 1, 0, none⟩ = some x) (c1 : W.cell? ⟨w.heap.size + 1, 1, none⟩ = some y) (c2 : W.cell? ⟨w.heap.size + 1 + 1, 0, none⟩ = some z) (c3 : W.cell? ⟨w.heap.size + 1 + 1, 1, none⟩ = some u) :
    (Calls Try.prog 29 #[.agg #[.int .i64 n, v], .func (.func 44) #[] #[.pointer (some ⟨w.heap.size + 1, 0, none⟩), .pointer (some ⟨w.heap.size + 1 + 1, 0, none⟩)]] W fun e w' => ∃ g, e = .returned (.slice (some ⟨g, 0, none⟩) n n) ∧ W.heap.size ≤ g ∧ g < w'.heap.size ∧ w'.ownsRow W.heap.size 4 1 (.slice (some ⟨g, 0, none⟩) n n) n (boolCells (rowOf (andAt l.r k.r) n)) ∧ Below W.heap.size W w') ∧
    (Calls Try.prog 29 #[.agg #[.int .i64 n, v], .func (.func 45) #[] #[.pointer (some ⟨w.heap.size + 1, 0, none⟩), .pointer (some ⟨w.heap.size + 1 + 1, 0, none⟩)]] W fun e w' => ∃ g, e = .returned (.slice (some ⟨g, 0, none⟩) n n) ∧ W.heap.size ≤ g ∧ g < w'.heap.size ∧ w'.ownsRow W.heap.size 4 1 (.slice (some ⟨g, 0, none⟩) n n) n (boolCells (rowOf (orAt l.w k.w) n)) ∧ Below W.heap.size W w') := by
  obtain ⟨x', y', e, hr1, hw1⟩ := hl
  obtain ⟨rfl, rfl⟩ : x = x' ∧ y = y' := by simpa using e
  obtain ⟨z', u', e', hr2, hw2⟩ := hk
  obtain ⟨rfl, rfl⟩ : z = z' ∧ u = u' := by simpa using e'
  obtain ⟨b1, o1, k1, rfl, q1⟩ := isBools_pos (isBools_over hr1 hB) hln.1 h1
  obtain ⟨b2, o2, k2, rfl, q2⟩ := isBools_pos (isBools_over hr2 hB) hkn.1 h1
  obtain ⟨b3, o3, k3, rfl, q3⟩ := isBools_pos (isBools_over hw1 hB) hln.2 h1
  obtain ⟨b4, o4, k4, rfl, q4⟩ := isBools_pos (isBools_over hw2 hB) hkn.2 h1
  have up : ∀ (W' : World), Below W.heap.size W W' → ∀ b o v, W.cell? ⟨b, o, none⟩ = some v → W'.cell? ⟨b, o, none⟩ = some v := fun W' hb b o v h => by rw [(bcell hb).1 _ _ (World.block_lt_of_cell? W _ h)]; exact h
  refine ⟨those_any 44 _ _ (andAt l.r k.r) n h1 hn v W (hide fun i hi W' hb => ?_) call44, those_any 45 _ _ (orAt l.w k.w) n h1 hn v W (hide fun i hi W' hb => ?_) call45⟩
  · exact join1_any _ _ n i b1 o1 k1 b2 o2 k2 _ _ W' hi hn (up W' hb _ _ _ c0) (up W' hb _ _ _ c2) (up W' hb _ _ _ (q1 i hi)) (up W' hb _ _ _ (q2 i hi))
  · exact join2_any _ _ n i b3 o3 k3 b4 o4 k4 _ _ W' hi hn (up W' hb _ _ _ c1) (up W' hb _ _ _ c3) (up W' hb _ _ _ (q3 i hi)) (up W' hb _ _ _ (q4 i hi))

set_option maxHeartbeats 4000000 in
theorem joinOk : JoinOk := by
  intro m v gs vl vk l k w hv hl hk
  have HL := hide hl
  have HK := hide hk
  have HV := hide hv
  obtain ⟨a1, k1, a2, k2, rfl⟩ := lev_form hl
  obtain ⟨a3, k3, a4, k4, rfl⟩ := lev_form hk
  obtain ⟨va, vn, vc, rfl⟩ := grants_form hv
  have hb3 : Below w.heap.size w (((((w.alloc (.cells #[.int .i64 m, .slice va vn vc] 24)).alloc (.cells #[.slice a1 l.r.length k1, .slice a2 l.w.length k2] 30)).alloc (.cells #[.slice a3 k.r.length k3, .slice a4 k.w.length k4] 30)).alloc (.cells #[.slice none 0 0, .slice none 0 0] 30)).alloc (.cells #[.slice a1 l.r.length k1, .slice a2 l.w.length k2, .slice a3 k.r.length k3, .slice a4 k.w.length k4] 30)) := (((((Below.refl _ w).alloc (Nat.le_refl _) _).alloc (by simp) _).alloc (by simp; omega) _).alloc (by simp; omega) _).alloc (by simp; omega) _
  have hcall := allTwo w m gs (.slice va vn vc) _ _ _ _ l k HV.out HL.out HK.out _ (w.heap.size + 1 + 1 + 1 + 1) hb3 (by simp [go_sem]) (by simp [go_sem]) (by simp [go_sem]) (by simp [go_sem])
  have hok := fun h => lTwo_ok (m := m) (gs := gs) (l := l) (k := k) h
  obtain ⟨r, hr⟩ : ∃ r, r = lTwo m gs l k := ⟨_, rfl⟩
  rw [← hr] at hcall hok ⊢
  have HC := hide hcall
  have HOK := hide hok
  clear hl hk hv hcall hok hr
  go_enter Try.func16, Try.ntmps16
  go_wp2_with fail
  refine (HC.out).mono ?_
  rintro e w1 ⟨rfl, hb1⟩
  have hB1 := hb3.trans (hb1.mono (by simp <;> omega))
  have hz1 := hb1.size
  simp at hz1
  obtain ⟨hc, hf⟩ := bcell hb1
  have a0 : w1.cell? ⟨w.heap.size, 0, none⟩ = some (.int .i64 m) := by rw [hc _ _ (by simp <;> omega)]; simp [go_sem]
  have a1' : w1.cell? ⟨w.heap.size, 1, none⟩ = some (.slice va vn vc) := by rw [hc _ _ (by simp <;> omega)]; simp [go_sem]
  have c0 : w1.cell? ⟨w.heap.size + 1, 0, none⟩ = some (.slice a1 l.r.length k1) := by rw [hc _ _ (by simp <;> omega)]; simp [go_sem]
  have c1 : w1.cell? ⟨w.heap.size + 1, 1, none⟩ = some (.slice a2 l.w.length k2) := by rw [hc _ _ (by simp <;> omega)]; simp [go_sem]
  have c2 : w1.cell? ⟨w.heap.size + 1 + 1, 0, none⟩ = some (.slice a3 k.r.length k3) := by rw [hc _ _ (by simp <;> omega)]; simp [go_sem]
  have c3 : w1.cell? ⟨w.heap.size + 1 + 1, 1, none⟩ = some (.slice a4 k.w.length k4) := by rw [hc _ _ (by simp <;> omega)]; simp [go_sem]
  have e0 : w1.cell? ⟨w.heap.size + 1 + 1 + 1, 0, none⟩ = some (.slice none 0 0) := by rw [hc _ _ (by simp <;> omega)]; simp [go_sem]
  have e1 : w1.cell? ⟨w.heap.size + 1 + 1 + 1, 1, none⟩ = some (.slice none 0 0) := by rw [hc _ _ (by simp <;> omega)]; simp [go_sem]
  have f0 : w1.frozen? ⟨w.heap.size + 1 + 1 + 1, 0, none⟩ = false := by rw [hf _ _ (by simp <;> omega)]; simp [go_sem]
  have f1 : w1.frozen? ⟨w.heap.size + 1 + 1 + 1, 1, none⟩ = false := by rw [hf _ _ (by simp <;> omega)]; simp [go_sem]
  clear hc hf hb1 hb3 HC
  by_cases hr0 : r = 0
  · subst hr0
    obtain ⟨n, hm, h1, h6, hln, hkn, hch⟩ := HOK.out (by first | rfl | trivial)
    subst hm
    have KT := hide fun (W : World) (hB : Below (w.heap.size + 1 + 1 + 1) w1 W) => joinClosure w n h1 h6 _ _ _ _ (.slice va vn vc) l k HL.out HK.out hln hkn W (hB1.trans (hB.mono (by omega))) (Nat.le_trans (by omega) hB.size) (by rw [hB.cell (p := ⟨w.heap.size + 1, 0, none⟩) (by simp <;> omega)]; exact c0) (by rw [hB.cell (p := ⟨w.heap.size + 1, 1, none⟩) (by simp <;> omega)]; exact c1) (by rw [hB.cell (p := ⟨w.heap.size + 1 + 1, 0, none⟩) (by simp <;> omega)]; exact c2) (by rw [hB.cell (p := ⟨w.heap.size + 1 + 1, 1, none⟩) (by simp <;> omega)]; exact c3)
    have E0 := hide e0
    have E1 := hide e1
    have F0 := hide f0
    have F1 := hide f1
    clear c0 c1 c2 c3 e0 e1 f0 f1 hln hkn hch HOK HL HK HV
    have hz3 : w.heap.size + 1 + 1 + 1 ≤ w1.heap.size := by omega
    have hz4 : w.heap.size + 1 + 1 + 1 < w1.heap.size := by omega
    have hltN : w.heap.size < w.heap.size + 1 + 1 + 1 := by omega
    have HZ4 := hide hz4
    have HLN := hide hltN
    have HZ3 := hide hz3
    clear hz3 hz4 hltN
    go_wp2_with fail
    first | go_region_held3 (fun W => W.cell? ⟨w.heap.size, 0, none⟩ = some (.int .i64 n) ∧ W.cell? ⟨w.heap.size, 1, none⟩ = some (.slice va vn vc) ∧ Below (w.heap.size + 1 + 1 + 1) w1 W) (first | assumption | exact ⟨a0, a1', below_drewN (Below.refl _ _) 1⟩ | exact kept2 (by assumption) hbq HZ3.out | exact kept2 (by assumption) hbp HZ3.out | exact set2 (set2 (by assumption) HLN.out (Nat.le_refl _) _) HLN.out (Nat.le_refl _) _ | fail) (first | (go_at_call 29; have hsec := ep0; refine (KT.out _ (by assumption : _ ∧ _ ∧ _).2.2).2.mono ?_; rintro e wq ⟨g2, rfl, hg2, hg2', ho2, hbq⟩; have eq0 : wq.cell? ⟨w.heap.size + 1 + 1 + 1, 0, none⟩ = some (.slice none 0 0) := (by rw [(bcell hbq).1 _ _ (World.block_lt_of_cell? wp _ ep0)]; exact ep0); have eq1 : wq.cell? ⟨w.heap.size + 1 + 1 + 1, 1, none⟩ = some (.slice none 0 0) := (by rw [(bcell hbq).1 _ _ (World.block_lt_of_cell? wp _ ep0)]; exact ep1); have fq0 : wq.frozen? ⟨w.heap.size + 1 + 1 + 1, 0, none⟩ = false := (by rw [(bcell hbq).2 _ _ (World.block_lt_of_cell? wp _ ep0)]; exact fp0); have fq1 : wq.frozen? ⟨w.heap.size + 1 + 1 + 1, 1, none⟩ = false := (by rw [(bcell hbq).2 _ _ (World.block_lt_of_cell? wp _ ep0)]; exact fp1)) | (go_at_call 29; refine (KT.out _ (by assumption : _ ∧ _ ∧ _).2.2).1.mono ?_; rintro e wp ⟨g1, rfl, hg1, hg1', ho1, hbp⟩; have ep0 : wp.cell? ⟨w.heap.size + 1 + 1 + 1, 0, none⟩ = some (.slice none 0 0) := (by rw [(bcell hbp).1 _ _ HZ4.out]; exact E0.out); have ep1 : wp.cell? ⟨w.heap.size + 1 + 1 + 1, 1, none⟩ = some (.slice none 0 0) := (by rw [(bcell hbp).1 _ _ HZ4.out]; exact E1.out); have fp0 : wp.frozen? ⟨w.heap.size + 1 + 1 + 1, 0, none⟩ = false := (by rw [(bcell hbp).2 _ _ HZ4.out]; exact F0.out); have fp1 : wp.frozen? ⟨w.heap.size + 1 + 1 + 1, 1, none⟩ = false := (by rw [(bcell hbp).2 _ _ HZ4.out]; exact F1.out))) | fail
    all_goals go_wp2_with fail
    all_goals
      refine bodyPost_ret (v := .tuple #[.agg #[.slice (some ⟨g1, 0, none⟩) n n, .slice (some ⟨g2, 0, none⟩) n n], .int .i64 0]) (by simp [results, Try.results16, go_sem, eq0, eq1]) rfl ⟨_, rfl, fresh_pair (w := w) (wa := w1.drew) (q := w.heap.size + 1 + 1 + 1) (f1 := andAt l.r k.r) (f2 := orAt l.w k.w) hB1.size HZ4.out ho1 hg1' hbp.size ho2 hbq hg2 _ _, ?_⟩
      have hd1 : Below w.heap.size w w1.drew := below_drewN hB1 1
      have hd2 := hd1.trans (hbp.mono hd1.size)
      have hd3 := hd2.trans (hbq.mono hd2.size)
      exact (hd3.setCell (by simp; omega) _).setCell (by simp; omega) _
  · have hne : (r != 0) = true := by simpa using hr0
    go_wp2_with fail
    refine bodyPost_ret (v := .tuple #[.agg #[.slice none 0 0, .slice none 0 0], .int .i64 r]) (by simp [results, Try.results16, go_sem, e0, e1]) rfl ⟨_, rfl, fresh_none _ _, (hB1.setCell (by simp; omega) _).setCell (by simp; omega) _⟩

theorem meetClosure (w : World) (n : Nat) (h1 : 1 ≤ n) (hn : n ≤ 6) (x y z u v : Value) (l k : Lev) (hl : LevAt w (.agg #[x, y]) l) (hk : LevAt w (.agg #[z, u]) k) (hln : l.len n) (hkn : k.len n) (W : World) (hB : Below w.heap.size w W) (hz : w.heap.size + 3 ≤ W.heap.size)
    (c0 : W.cell? ⟨w.heap.size + 1, 0, none⟩ = some x) (c1 : W.cell? ⟨w.heap.size + 1, 1, none⟩ = some y) (c2 : W.cell? ⟨w.heap.size + 1 + 1, 0, none⟩ = some z) (c3 : W.cell? ⟨w.heap.size + 1 + 1, 1, none⟩ = some u) :
    (Calls Try.prog 29 #[.agg #[.int .i64 n, v], .func (.func 46) #[] #[.pointer (some ⟨w.heap.size + 1, 0, none⟩), .pointer (some ⟨w.heap.size + 1 + 1, 0, none⟩)]] W fun e w' => ∃ g, e = .returned (.slice (some ⟨g, 0, none⟩) n n) ∧ W.heap.size ≤ g ∧ g < w'.heap.size ∧ w'.ownsRow W.heap.size 4 1 (.slice (some ⟨g, 0, none⟩) n n) n (boolCells (rowOf (orAt l.r k.r) n)) ∧ Below W.heap.size W w') ∧
    (Calls Try.prog 29 #[.agg #[.int .i64 n, v], .func (.func 47) #[] #[.pointer (some ⟨w.heap.size + 1, 0, none⟩), .pointer (some ⟨w.heap.size + 1 + 1, 0, none⟩)]] W fun e w' => ∃ g, e = .returned (.slice (some ⟨g, 0, none⟩) n n) ∧ W.heap.size ≤ g ∧ g < w'.heap.size ∧ w'.ownsRow W.heap.size 4 1 (.slice (some ⟨g, 0, none⟩) n n) n (boolCells (rowOf (andAt l.w k.w) n)) ∧ Below W.heap.size W w') := by
  obtain ⟨x', y', e, hr1, hw1⟩ := hl
  obtain ⟨rfl, rfl⟩ : x = x' ∧ y = y' := by simpa using e
  obtain ⟨z', u', e', hr2, hw2⟩ := hk
  obtain ⟨rfl, rfl⟩ : z = z' ∧ u = u' := by simpa using e'
  obtain ⟨b1, o1, k1, rfl, q1⟩ := isBools_pos (isBools_over hr1 hB) hln.1 h1
  obtain ⟨b2, o2, k2, rfl, q2⟩ := isBools_pos (isBools_over hr2 hB) hkn.1 h1
  obtain ⟨b3, o3, k3, rfl, q3⟩ := isBools_pos (isBools_over hw1 hB) hln.2 h1
  obtain ⟨b4, o4, k4, rfl, q4⟩ := isBools_pos (isBools_over hw2 hB) hkn.2 h1
  have up : ∀ (W' : World), Below W.heap.size W W' → ∀ b o v, W.cell? ⟨b, o, none⟩ = some v → W'.cell? ⟨b, o, none⟩ = some v := fun W' hb b o v h => by rw [(bcell hb).1 _ _ (World.block_lt_of_cell? W _ h)]; exact h
  refine ⟨those_any 46 _ _ (orAt l.r k.r) n h1 hn v W (hide fun i hi W' hb => ?_) call46, those_any 47 _ _ (andAt l.w k.w) n h1 hn v W (hide fun i hi W' hb => ?_) call47⟩
  · exact meet1_any _ _ n i b1 o1 k1 b2 o2 k2 _ _ W' hi hn (up W' hb _ _ _ c0) (up W' hb _ _ _ c2) (up W' hb _ _ _ (q1 i hi)) (up W' hb _ _ _ (q2 i hi))
  · exact meet2_any _ _ n i b3 o3 k3 b4 o4 k4 _ _ W' hi hn (up W' hb _ _ _ c1) (up W' hb _ _ _ c3) (up W' hb _ _ _ (q3 i hi)) (up W' hb _ _ _ (q4 i hi))

set_option maxHeartbeats 4000000 in
theorem meetOk : MeetOk := by
  intro m v gs vl vk l k w hv hl hk
  have HL := hide hl
  have HK := hide hk
  have HV := hide hv
  obtain ⟨a1, k1, a2, k2, rfl⟩ := lev_form hl
  obtain ⟨a3, k3, a4, k4, rfl⟩ := lev_form hk
  obtain ⟨va, vn, vc, rfl⟩ := grants_form hv
  have hb3 : Below w.heap.size w (((((w.alloc (.cells #[.int .i64 m, .slice va vn vc] 24)).alloc (.cells #[.slice a1 l.r.length k1, .slice a2 l.w.length k2] 30)).alloc (.cells #[.slice a3 k.r.length k3, .slice a4 k.w.length k4] 30)).alloc (.cells #[.slice none 0 0, .slice none 0 0] 30)).alloc (.cells #[.slice a1 l.r.length k1, .slice a2 l.w.length k2, .slice a3 k.r.length k3, .slice a4 k.w.length k4] 30)) := (((((Below.refl _ w).alloc (Nat.le_refl _) _).alloc (by simp) _).alloc (by simp; omega) _).alloc (by simp; omega) _).alloc (by simp; omega) _
  have hcall := allTwo w m gs (.slice va vn vc) _ _ _ _ l k HV.out HL.out HK.out _ (w.heap.size + 1 + 1 + 1 + 1) hb3 (by simp [go_sem]) (by simp [go_sem]) (by simp [go_sem]) (by simp [go_sem])
  have hok := fun h => lTwo_ok (m := m) (gs := gs) (l := l) (k := k) h
  obtain ⟨r, hr⟩ : ∃ r, r = lTwo m gs l k := ⟨_, rfl⟩
  rw [← hr] at hcall hok ⊢
  have HC := hide hcall
  have HOK := hide hok
  clear hl hk hv hcall hok hr
  go_enter Try.func17, Try.ntmps17
  go_wp2_with fail
  refine (HC.out).mono ?_
  rintro e w1 ⟨rfl, hb1⟩
  have hB1 := hb3.trans (hb1.mono (by simp <;> omega))
  have hz1 := hb1.size
  simp at hz1
  obtain ⟨hc, hf⟩ := bcell hb1
  have a0 : w1.cell? ⟨w.heap.size, 0, none⟩ = some (.int .i64 m) := by rw [hc _ _ (by simp <;> omega)]; simp [go_sem]
  have a1' : w1.cell? ⟨w.heap.size, 1, none⟩ = some (.slice va vn vc) := by rw [hc _ _ (by simp <;> omega)]; simp [go_sem]
  have c0 : w1.cell? ⟨w.heap.size + 1, 0, none⟩ = some (.slice a1 l.r.length k1) := by rw [hc _ _ (by simp <;> omega)]; simp [go_sem]
  have c1 : w1.cell? ⟨w.heap.size + 1, 1, none⟩ = some (.slice a2 l.w.length k2) := by rw [hc _ _ (by simp <;> omega)]; simp [go_sem]
  have c2 : w1.cell? ⟨w.heap.size + 1 + 1, 0, none⟩ = some (.slice a3 k.r.length k3) := by rw [hc _ _ (by simp <;> omega)]; simp [go_sem]
  have c3 : w1.cell? ⟨w.heap.size + 1 + 1, 1, none⟩ = some (.slice a4 k.w.length k4) := by rw [hc _ _ (by simp <;> omega)]; simp [go_sem]
  have e0 : w1.cell? ⟨w.heap.size + 1 + 1 + 1, 0, none⟩ = some (.slice none 0 0) := by rw [hc _ _ (by simp <;> omega)]; simp [go_sem]
  have e1 : w1.cell? ⟨w.heap.size + 1 + 1 + 1, 1, none⟩ = some (.slice none 0 0) := by rw [hc _ _ (by simp <;> omega)]; simp [go_sem]
  have f0 : w1.frozen? ⟨w.heap.size + 1 + 1 + 1, 0, none⟩ = false := by rw [hf _ _ (by simp <;> omega)]; simp [go_sem]
  have f1 : w1.frozen? ⟨w.heap.size + 1 + 1 + 1, 1, none⟩ = false := by rw [hf _ _ (by simp <;> omega)]; simp [go_sem]
  clear hc hf hb1 hb3 HC
  by_cases hr0 : r = 0
  · subst hr0
    obtain ⟨n, hm, h1, h6, hln, hkn, hch⟩ := HOK.out (by first | rfl | trivial)
    subst hm
    have KT := hide fun (W : World) (hB : Below (w.heap.size + 1 + 1 + 1) w1 W) => meetClosure w n h1 h6 _ _ _ _ (.slice va vn vc) l k HL.out HK.out hln hkn W (hB1.trans (hB.mono (by omega))) (Nat.le_trans (by omega) hB.size) (by rw [hB.cell (p := ⟨w.heap.size + 1, 0, none⟩) (by simp <;> omega)]; exact c0) (by rw [hB.cell (p := ⟨w.heap.size + 1, 1, none⟩) (by simp <;> omega)]; exact c1) (by rw [hB.cell (p := ⟨w.heap.size + 1 + 1, 0, none⟩) (by simp <;> omega)]; exact c2) (by rw [hB.cell (p := ⟨w.heap.size + 1 + 1, 1, none⟩) (by simp <;> omega)]; exact c3)
    have E0 := hide e0
    have E1 := hide e1
    have F0 := hide f0
    have F1 := hide f1
    clear c0 c1 c2 c3 e0 e1 f0 f1 hln hkn hch HOK HL HK HV
    have hz3 : w.heap.size + 1 + 1 + 1 ≤ w1.heap.size := by omega
    have hz4 : w.heap.size + 1 + 1 + 1 < w1.heap.size := by omega
    have hltN : w.heap.size < w.heap.size + 1 + 1 + 1 := by omega
    have HZ4 := hide hz4
    have HLN := hide hltN
    have HZ3 := hide hz3
    clear hz3 hz4 hltN
    go_wp2_with fail
    first | go_region_held3 (fun W => W.cell? ⟨w.heap.size, 0, none⟩ = some (.int .i64 n) ∧ W.cell? ⟨w.heap.size, 1, none⟩ = some (.slice va vn vc) ∧ Below (w.heap.size + 1 + 1 + 1) w1 W) (first | assumption | exact ⟨a0, a1', below_drewN (Below.refl _ _) 1⟩ | exact kept2 (by assumption) hbq HZ3.out | exact kept2 (by assumption) hbp HZ3.out | exact set2 (set2 (by assumption) HLN.out (Nat.le_refl _) _) HLN.out (Nat.le_refl _) _ | fail) (first | (go_at_call 29; have hsec := ep0; refine (KT.out _ (by assumption : _ ∧ _ ∧ _).2.2).2.mono ?_; rintro e wq ⟨g2, rfl, hg2, hg2', ho2, hbq⟩; have eq0 : wq.cell? ⟨w.heap.size + 1 + 1 + 1, 0, none⟩ = some (.slice none 0 0) := (by rw [(bcell hbq).1 _ _ (World.block_lt_of_cell? wp _ ep0)]; exact ep0); have eq1 : wq.cell? ⟨w.heap.size + 1 + 1 + 1, 1, none⟩ = some (.slice none 0 0) := (by rw [(bcell hbq).1 _ _ (World.block_lt_of_cell? wp _ ep0)]; exact ep1); have fq0 : wq.frozen? ⟨w.heap.size + 1 + 1 + 1, 0, none⟩ = false := (by rw [(bcell hbq).2 _ _ (World.block_lt_of_cell? wp _ ep0)]; exact fp0); have fq1 : wq.frozen? ⟨w.heap.size + 1 + 1 + 1, 1, none⟩ = false := (by rw [(bcell hbq).2 _ _ (World.block_lt_of_cell? wp _ ep0)]; exact fp1)) | (go_at_call 29; refine (KT.out _ (by assumption : _ ∧ _ ∧ _).2.2).1.mono ?_; rintro e wp ⟨g1, rfl, hg1, hg1', ho1, hbp⟩; have ep0 : wp.cell? ⟨w.heap.size + 1 + 1 + 1, 0, none⟩ = some (.slice none 0 0) := (by rw [(bcell hbp).1 _ _ HZ4.out]; exact E0.out); have ep1 : wp.cell? ⟨w.heap.size + 1 + 1 + 1, 1, none⟩ = some (.slice none 0 0) := (by rw [(bcell hbp).1 _ _ HZ4.out]; exact E1.out); have fp0 : wp.frozen? ⟨w.heap.size + 1 + 1 + 1, 0, none⟩ = false := (by rw [(bcell hbp).2 _ _ HZ4.out]; exact F0.out); have fp1 : wp.frozen? ⟨w.heap.size + 1 + 1 + 1, 1, none⟩ = false := (by rw [(bcell hbp).2 _ _ HZ4.out]; exact F1.out))) | fail
    all_goals go_wp2_with fail
    all_goals
      refine bodyPost_ret (v := .tuple #[.agg #[.slice (some ⟨g1, 0, none⟩) n n, .slice (some ⟨g2, 0, none⟩) n n], .int .i64 0]) (by simp [results, Try.results17, go_sem, eq0, eq1]) rfl ⟨_, rfl, fresh_pair (w := w) (wa := w1.drew) (q := w.heap.size + 1 + 1 + 1) (f1 := orAt l.r k.r) (f2 := andAt l.w k.w) hB1.size HZ4.out ho1 hg1' hbp.size ho2 hbq hg2 _ _, ?_⟩
      have hd1 : Below w.heap.size w w1.drew := below_drewN hB1 1
      have hd2 := hd1.trans (hbp.mono hd1.size)
      have hd3 := hd2.trans (hbq.mono hd2.size)
      exact (hd3.setCell (by simp; omega) _).setCell (by simp; omega) _
  · have hne : (r != 0) = true := by simpa using hr0
    go_wp2_with fail
    refine bodyPost_ret (v := .tuple #[.agg #[.slice none 0 0, .slice none 0 0], .int .i64 r]) (by simp [results, Try.results17, go_sem, e0, e1]) rfl ⟨_, rfl, fresh_none _ _, (hB1.setCell (by simp; omega) _).setCell (by simp; omega) _⟩
end Go.Proofs.Ytekgnjifopgboaa

/- Runs held against each other. -/
import Derived.Test.YtpbnmmgocpobcaaM35
namespace Go.Proofs.Ytpbnmmgocpobcaa.Ex
open Go.RowKit
set_option linter.unusedVariables false

theorem evCells_get : ∀ (l : List Ev4) (i : Nat) (h : i < l.length), (evCells l)[i * 4]? = some (.int .i64 l[i].1) ∧ (evCells l)[i * 4 + 1]? = some (.int .i64 l[i].2.1) ∧ (evCells l)[i * 4 + 2]? = some (.int .i64 l[i].2.2.1) ∧ (evCells l)[i * 4 + 3]? = some (.int .i64 l[i].2.2.2)
  | [], i, h => by simp at h
  | e :: r, 0, h => ⟨rfl, rfl, rfl, rfl⟩
  | e :: r, i + 1, h => by
    have := evCells_get r i (by simpa using h)
    rw [Nat.succ_mul]
    simpa [evCells] using this

/-- events in memory. -/
def EvAt (w : World) (v : Value) (l : List Ev4) : Prop := ∃ ao cap, v = .slice ao l.length cap ∧ l.length ≤ cap ∧ cap ≤ maxLen ∧ (l ≠ [] → ∃ b, ao = some ⟨b, 0, none⟩ ∧ RowAt (evCells l) w b)
theorem EvAt.over {w w' : World} {v : Value} {l : List Ev4} (h : EvAt w v l) (hb : Below w.heap.size w w') : EvAt w' v l := by
  obtain ⟨ao, cap, hv, hc, hm, hr⟩ := h
  exact ⟨ao, cap, hv, hc, hm, fun hne => by obtain ⟨b, h1, h2⟩ := hr hne; exact ⟨b, h1, h2.over hb⟩⟩
theorem EvAt.of_own {w : World} {B : Nat} {v : Value} {l : List Ev4} (h : w.ownsRow B 56 4 v l.length (evCells l)) : EvAt w v l := by
  rcases h.2 with ⟨h1, h2⟩ | ⟨g, cap, cur, hv, hb, hg, h1, h2, h3, h4⟩
  · exact ⟨none, 0, by rw [h1, h2], by omega, by unfold maxLen; omega, fun hne => absurd (List.length_eq_zero_iff.1 h2) hne⟩
  · refine ⟨_, cap, hv, h1, h2, fun _ => ⟨g, rfl, fun j u hu => ?_⟩⟩
    have := h.cells (g := g) (by rw [hv]; rfl) j u hu
    rwa [Addr.add_lit, Nat.zero_add] at this
theorem evCells_prefix {l m : List Ev4} (h : l <+: m) {w : World} {b : Nat} (hr : RowAt (evCells m) w b) : RowAt (evCells l) w b := by
  obtain ⟨t, rfl⟩ := h
  rw [evCells_append] at hr
  exact hr.more

set_option maxHeartbeats 1000000 in
theorem sameInts_eq (l : List Int) (va vb : Value) (w : World) (ha : IsInts w va l) (hb : IsInts w vb l) (hl : l.length ≤ 9223372036854775807) :
    Calls Try.prog 14 #[va, vb] w fun e w' => e = .returned (.bool true) ∧ ∃ n, w' = w.drewN n := by
  obtain ⟨ao, ac, rfl, hac⟩ := ha
  obtain ⟨bo, bc, rfl, hbc⟩ := hb
  have HA := hide hac
  have HB := hide hbc
  clear hac hbc
  go_enter Try.func14, Try.ntmps14
  go_wp2_with fail
  go_loopw [5] (fun i wr => ∃ j : Nat, j ≤ l.length ∧ i = .int .i64 j ∧ ∃ n, wr = w.drewN n) (fun i _ => l.length - (intOf i).toNat)
  case atStart => exact ⟨0, Nat.zero_le _, rfl, 0, rfl⟩
  case round =>
    obtain ⟨j, hj, rfl, n, rfl⟩ := hrel
    by_cases hjl : j < l.length
    · obtain ⟨b, off, rfl, hel⟩ := HA.out (by intro hz; rw [hz] at hjl; simp at hjl)
      obtain ⟨b', off', rfl, hel'⟩ := HB.out (by intro hz; rw [hz] at hjl; simp at hjl)
      have q0 := hel j hjl
      have q1 := hel' j hjl
      have hji : (j : Int) < (l.length : Int) := by omega
      obtain ⟨x, hx⟩ : ∃ x, x = l[j] := ⟨_, rfl⟩
      rw [← hx] at q0 q1
      obtain ⟨n0, hn0⟩ : ∃ q, q = l.length := ⟨_, rfl⟩
      rw [← hn0] at hji ⊢
      have HN0 := hide hn0
      clear hel hel' hx hn0
      go_wp2_with fail
      go_quiet ((fail))
      go_wp2_with fail
      have hn0 := HN0.out
      subst hn0
      exact ⟨⟨j + 1, by omega, by go_num, _, by first | rfl | exact World.drewN_drewN _ _ _⟩, by simp [intOf]; omega⟩
    · go_wp2_with fail
      go_ret
      exact ⟨rfl, n, by first | rfl | trivial⟩

set_option maxHeartbeats 2000000 in
set_option maxRecDepth 100000 in
theorem sameEvents_eq (l : List Ev4) (va vb : Value) (w : World) (ha : EvAt w va l) (hb : EvAt w vb l) (hl : l.length ≤ 9223372036854775807) :
    Calls Try.prog 15 #[va, vb] w fun e w' => e = .returned (.bool true) ∧ Below w.heap.size w w' := by
  obtain ⟨ao, ac, rfl, -, -, hac⟩ := ha
  obtain ⟨bo, bc, rfl, -, -, hbc⟩ := hb
  have HA := hide hac
  have HB := hide hbc
  clear hac hbc
  go_enter Try.func15, Try.ntmps15
  go_wp2_with fail
  go_loopw [5] (fun i wr => ∃ j : Nat, j ≤ l.length ∧ i = .int .i64 j ∧ Below w.heap.size w wr) (fun i _ => l.length - (intOf i).toNat)
  case atStart => exact ⟨0, Nat.zero_le _, rfl, Below.refl _ _⟩
  case round =>
    obtain ⟨j, hj, rfl, hBr⟩ := hrel
    by_cases hjl : j < l.length
    · obtain ⟨b, rfl, hel⟩ := HA.out (by intro hz; rw [hz] at hjl; simp at hjl)
      obtain ⟨b', rfl, hel'⟩ := HB.out (by intro hz; rw [hz] at hjl; simp at hjl)
      obtain ⟨g0, g1, g2, g3⟩ := evCells_get l j hjl
      have q0 := cell_over hBr _ _ (hel _ _ g0)
      have q1 := cell_over hBr _ _ (hel _ _ g1)
      have q2 := cell_over hBr _ _ (hel _ _ g2)
      have q3 := cell_over hBr _ _ (hel _ _ g3)
      have r0 := cell_over hBr _ _ (hel' _ _ g0)
      have r1 := cell_over hBr _ _ (hel' _ _ g1)
      have r2 := cell_over hBr _ _ (hel' _ _ g2)
      have r3 := cell_over hBr _ _ (hel' _ _ g3)
      have hji : (j : Int) < (l.length : Int) := by omega
      obtain ⟨x0, hx0⟩ : ∃ x, x = l[j].1 := ⟨_, rfl⟩
      obtain ⟨x1, hx1⟩ : ∃ x, x = l[j].2.1 := ⟨_, rfl⟩
      obtain ⟨x2, hx2⟩ : ∃ x, x = l[j].2.2.1 := ⟨_, rfl⟩
      obtain ⟨x3, hx3⟩ : ∃ x, x = l[j].2.2.2 := ⟨_, rfl⟩
      rw [← hx0] at q0 r0
      rw [← hx1] at q1 r1
      rw [← hx2] at q2 r2
      rw [← hx3] at q3 r3
      obtain ⟨n0, hn0⟩ : ∃ q, q = l.length := ⟨_, rfl⟩
      rw [← hn0] at hji ⊢
      have HN0 := hide hn0
      clear hel hel' hx0 hx1 hx2 hx3 hn0 g0 g1 g2 g3
      go_wp2_with fail
      go_quiet ((fail))
      go_wp2_with fail
      have hn0 := HN0.out
      subst hn0
      exact ⟨⟨j + 1, by omega, by go_num, below_drewN hBr _⟩, by simp [intOf]; omega⟩
    · go_wp2_with fail
      go_ret
      exact ⟨rfl, hBr⟩
end Go.Proofs.Ytpbnmmgocpobcaa.Ex
/- Runs held against each other: whole. -/
namespace Go.Proofs.Ytpbnmmgocpobcaa.Ex
open Go.RowKit
set_option linter.unusedVariables false

theorem keep12 {w w0 w1 : World} {a0 a1 a2 a3 a4 a5 a6 a7 a8 a9 a10 a11 : Addr} {v0 v1 v2 v3 v4 v5 v6 v7 v8 v9 v10 v11 : Value} (h : w0.cell? a0 = some v0 ∧ w0.cell? a1 = some v1 ∧ w0.cell? a2 = some v2 ∧ w0.cell? a3 = some v3 ∧ w0.cell? a4 = some v4 ∧ w0.cell? a5 = some v5 ∧ w0.cell? a6 = some v6 ∧ w0.cell? a7 = some v7 ∧ w0.cell? a8 = some v8 ∧ w0.cell? a9 = some v9 ∧ w0.cell? a10 = some v10 ∧ w0.cell? a11 = some v11 ∧ Below w.heap.size w w0) (hb : Below w0.heap.size w0 w1) :
    w1.cell? a0 = some v0 ∧ w1.cell? a1 = some v1 ∧ w1.cell? a2 = some v2 ∧ w1.cell? a3 = some v3 ∧ w1.cell? a4 = some v4 ∧ w1.cell? a5 = some v5 ∧ w1.cell? a6 = some v6 ∧ w1.cell? a7 = some v7 ∧ w1.cell? a8 = some v8 ∧ w1.cell? a9 = some v9 ∧ w1.cell? a10 = some v10 ∧ w1.cell? a11 = some v11 ∧ Below w.heap.size w w1 := by
  obtain ⟨h0, h1, h2, h3, h4, h5, h6, h7, h8, h9, h10, h11, hB⟩ := h
  exact ⟨cell_over hb _ _ h0, cell_over hb _ _ h1, cell_over hb _ _ h2, cell_over hb _ _ h3, cell_over hb _ _ h4, cell_over hb _ _ h5, cell_over hb _ _ h6, cell_over hb _ _ h7, cell_over hb _ _ h8, cell_over hb _ _ h9, cell_over hb _ _ h10, cell_over hb _ _ h11, over_trans hB hb⟩

set_option maxHeartbeats 4000000 in
set_option maxRecDepth 100000 in
theorem sameRun_walk (ea : Option Addr) (el ec : Nat) (fa : Option Addr) (fc : Nat) (b1 b2 c1 c2 vn yn : Nat) (s en : Int) (w : World)
    (KE : Hid (∀ W, Below w.heap.size w W → Calls Try.prog 15 #[.slice ea el ec, .slice fa el fc] W fun e w' => e = .returned (.bool true) ∧ Below W.heap.size W w'))
    (KV : Hid (∀ W, Below w.heap.size w W → Calls Try.prog 14 #[.slice (some ⟨b1, 0, none⟩) vn vn, .slice (some ⟨c1, 0, none⟩) vn vn] W fun e w' => e = .returned (.bool true) ∧ ∃ n, w' = W.drewN n))
    (KT : Hid (∀ W, Below w.heap.size w W → Calls Try.prog 14 #[.slice (some ⟨b2, 0, none⟩) yn yn, .slice (some ⟨c2, 0, none⟩) yn yn] W fun e w' => e = .returned (.bool true) ∧ ∃ n, w' = W.drewN n)) :
    Calls Try.prog 7 #[.agg #[.slice ea el ec, .slice (some ⟨b1, 0, none⟩) vn vn, .slice (some ⟨b2, 0, none⟩) yn yn, .int .i64 s, .int .i64 en, .int .i64 0], .agg #[.slice fa el fc, .slice (some ⟨c1, 0, none⟩) vn vn, .slice (some ⟨c2, 0, none⟩) yn yn, .int .i64 s, .int .i64 en, .int .i64 0]] w fun e w' => e = .returned (.bool true) ∧ Below w.heap.size w w' := by
  have hbel : Below w.heap.size w ((w.alloc (.cells #[.slice ea el ec, .slice (some ⟨b1, 0, none⟩) vn vn, .slice (some ⟨b2, 0, none⟩) yn yn, .int .i64 s, .int .i64 en, .int .i64 0] 35)).alloc (.cells #[.slice fa el fc, .slice (some ⟨c1, 0, none⟩) vn vn, .slice (some ⟨c2, 0, none⟩) yn yn, .int .i64 s, .int .i64 en, .int .i64 0] 35)) := ((Below.refl _ w).alloc (Nat.le_refl _) _).alloc (by simp) _
  have p0 : ((w.alloc (.cells #[.slice ea el ec, .slice (some ⟨b1, 0, none⟩) vn vn, .slice (some ⟨b2, 0, none⟩) yn yn, .int .i64 s, .int .i64 en, .int .i64 0] 35)).alloc (.cells #[.slice fa el fc, .slice (some ⟨c1, 0, none⟩) vn vn, .slice (some ⟨c2, 0, none⟩) yn yn, .int .i64 s, .int .i64 en, .int .i64 0] 35)).cell? ⟨w.heap.size, 0, none⟩ = some (.slice ea el ec) := by simp [go_sem]
  have p1 : ((w.alloc (.cells #[.slice ea el ec, .slice (some ⟨b1, 0, none⟩) vn vn, .slice (some ⟨b2, 0, none⟩) yn yn, .int .i64 s, .int .i64 en, .int .i64 0] 35)).alloc (.cells #[.slice fa el fc, .slice (some ⟨c1, 0, none⟩) vn vn, .slice (some ⟨c2, 0, none⟩) yn yn, .int .i64 s, .int .i64 en, .int .i64 0] 35)).cell? ⟨w.heap.size, 1, none⟩ = some (.slice (some ⟨b1, 0, none⟩) vn vn) := by simp [go_sem]
  have p2 : ((w.alloc (.cells #[.slice ea el ec, .slice (some ⟨b1, 0, none⟩) vn vn, .slice (some ⟨b2, 0, none⟩) yn yn, .int .i64 s, .int .i64 en, .int .i64 0] 35)).alloc (.cells #[.slice fa el fc, .slice (some ⟨c1, 0, none⟩) vn vn, .slice (some ⟨c2, 0, none⟩) yn yn, .int .i64 s, .int .i64 en, .int .i64 0] 35)).cell? ⟨w.heap.size, 2, none⟩ = some (.slice (some ⟨b2, 0, none⟩) yn yn) := by simp [go_sem]
  have p3 : ((w.alloc (.cells #[.slice ea el ec, .slice (some ⟨b1, 0, none⟩) vn vn, .slice (some ⟨b2, 0, none⟩) yn yn, .int .i64 s, .int .i64 en, .int .i64 0] 35)).alloc (.cells #[.slice fa el fc, .slice (some ⟨c1, 0, none⟩) vn vn, .slice (some ⟨c2, 0, none⟩) yn yn, .int .i64 s, .int .i64 en, .int .i64 0] 35)).cell? ⟨w.heap.size, 3, none⟩ = some (.int .i64 s) := by simp [go_sem]
  have p4 : ((w.alloc (.cells #[.slice ea el ec, .slice (some ⟨b1, 0, none⟩) vn vn, .slice (some ⟨b2, 0, none⟩) yn yn, .int .i64 s, .int .i64 en, .int .i64 0] 35)).alloc (.cells #[.slice fa el fc, .slice (some ⟨c1, 0, none⟩) vn vn, .slice (some ⟨c2, 0, none⟩) yn yn, .int .i64 s, .int .i64 en, .int .i64 0] 35)).cell? ⟨w.heap.size, 4, none⟩ = some (.int .i64 en) := by simp [go_sem]
  have p5 : ((w.alloc (.cells #[.slice ea el ec, .slice (some ⟨b1, 0, none⟩) vn vn, .slice (some ⟨b2, 0, none⟩) yn yn, .int .i64 s, .int .i64 en, .int .i64 0] 35)).alloc (.cells #[.slice fa el fc, .slice (some ⟨c1, 0, none⟩) vn vn, .slice (some ⟨c2, 0, none⟩) yn yn, .int .i64 s, .int .i64 en, .int .i64 0] 35)).cell? ⟨w.heap.size, 5, none⟩ = some (.int .i64 0) := by simp [go_sem]
  have q0 : ((w.alloc (.cells #[.slice ea el ec, .slice (some ⟨b1, 0, none⟩) vn vn, .slice (some ⟨b2, 0, none⟩) yn yn, .int .i64 s, .int .i64 en, .int .i64 0] 35)).alloc (.cells #[.slice fa el fc, .slice (some ⟨c1, 0, none⟩) vn vn, .slice (some ⟨c2, 0, none⟩) yn yn, .int .i64 s, .int .i64 en, .int .i64 0] 35)).cell? ⟨w.heap.size + 1, 0, none⟩ = some (.slice fa el fc) := by simp [go_sem]
  have q1 : ((w.alloc (.cells #[.slice ea el ec, .slice (some ⟨b1, 0, none⟩) vn vn, .slice (some ⟨b2, 0, none⟩) yn yn, .int .i64 s, .int .i64 en, .int .i64 0] 35)).alloc (.cells #[.slice fa el fc, .slice (some ⟨c1, 0, none⟩) vn vn, .slice (some ⟨c2, 0, none⟩) yn yn, .int .i64 s, .int .i64 en, .int .i64 0] 35)).cell? ⟨w.heap.size + 1, 1, none⟩ = some (.slice (some ⟨c1, 0, none⟩) vn vn) := by simp [go_sem]
  have q2 : ((w.alloc (.cells #[.slice ea el ec, .slice (some ⟨b1, 0, none⟩) vn vn, .slice (some ⟨b2, 0, none⟩) yn yn, .int .i64 s, .int .i64 en, .int .i64 0] 35)).alloc (.cells #[.slice fa el fc, .slice (some ⟨c1, 0, none⟩) vn vn, .slice (some ⟨c2, 0, none⟩) yn yn, .int .i64 s, .int .i64 en, .int .i64 0] 35)).cell? ⟨w.heap.size + 1, 2, none⟩ = some (.slice (some ⟨c2, 0, none⟩) yn yn) := by simp [go_sem]
  have q3 : ((w.alloc (.cells #[.slice ea el ec, .slice (some ⟨b1, 0, none⟩) vn vn, .slice (some ⟨b2, 0, none⟩) yn yn, .int .i64 s, .int .i64 en, .int .i64 0] 35)).alloc (.cells #[.slice fa el fc, .slice (some ⟨c1, 0, none⟩) vn vn, .slice (some ⟨c2, 0, none⟩) yn yn, .int .i64 s, .int .i64 en, .int .i64 0] 35)).cell? ⟨w.heap.size + 1, 3, none⟩ = some (.int .i64 s) := by simp [go_sem]
  have q4 : ((w.alloc (.cells #[.slice ea el ec, .slice (some ⟨b1, 0, none⟩) vn vn, .slice (some ⟨b2, 0, none⟩) yn yn, .int .i64 s, .int .i64 en, .int .i64 0] 35)).alloc (.cells #[.slice fa el fc, .slice (some ⟨c1, 0, none⟩) vn vn, .slice (some ⟨c2, 0, none⟩) yn yn, .int .i64 s, .int .i64 en, .int .i64 0] 35)).cell? ⟨w.heap.size + 1, 4, none⟩ = some (.int .i64 en) := by simp [go_sem]
  have q5 : ((w.alloc (.cells #[.slice ea el ec, .slice (some ⟨b1, 0, none⟩) vn vn, .slice (some ⟨b2, 0, none⟩) yn yn, .int .i64 s, .int .i64 en, .int .i64 0] 35)).alloc (.cells #[.slice fa el fc, .slice (some ⟨c1, 0, none⟩) vn vn, .slice (some ⟨c2, 0, none⟩) yn yn, .int .i64 s, .int .i64 en, .int .i64 0] 35)).cell? ⟨w.heap.size + 1, 5, none⟩ = some (.int .i64 0) := by simp [go_sem]
  go_enter Try.func7, Try.ntmps7
  go_wp2_with fail
  refine (KE.out _ hbel).mono ?_
  rintro e w1 ⟨rfl, hb1⟩
  obtain ⟨p0, p1, p2, p3, p4, p5, q0, q1, q2, q3, q4, q5, hB1⟩ := keep12 (w := w) ⟨p0, p1, p2, p3, p4, p5, q0, q1, q2, q3, q4, q5, hbel⟩ hb1
  clear hb1 hbel KE
  go_wp2_with fail
  refine (KV.out _ hB1).mono ?_
  rintro e w2 ⟨rfl, n2, rfl⟩
  have hB2 := below_drewN hB1 n2
  go_wp2_with fail
  refine (KT.out _ hB2).mono ?_
  rintro e w3 ⟨rfl, n3, rfl⟩
  have hB3 := below_drewN hB2 n3
  go_wp2_with fail
  go_ret
  exact ⟨by first | rfl | simp, by first | exact hB3 | exact below_drewN hB1 _⟩

theorem rowInts {l : List Int} {w : World} {b : Nat} (h : RowAt (intsV l) w b) : IsInts w (.slice (some ⟨b, 0, none⟩) l.length l.length) l := by
  refine ⟨_, _, rfl, fun _ => ⟨b, 0, rfl, fun i hi => ?_⟩⟩
  rw [Nat.zero_add]
  exact h i _ (by simp [hi])

theorem sameRun_eq (B B' F F' vn yn : Nat) (r : Bool × RSt) (ev ev' : Value) (b1 b2 c1 c2 : Nat) (w : World) (h : RunAt B vn yn F r ev b1 b2 w) (h' : RunAt B' vn yn F' r ev' c1 c2 w) (hv : vn ≤ 100) (hy : yn ≤ 100) (hl : r.2.ev.length ≤ 2000) :
    Calls Try.prog 7 #[runV ev b1 b2 vn yn r, runV ev' c1 c2 vn yn r] w fun e w' => e = .returned (.bool true) ∧ Below w.heap.size w w' := by
  have e1 := EvAt.of_own h.own
  have e2 := EvAt.of_own h'.own
  have v1 := rowInts h.vars
  have v2 := rowInts h'.vars
  have t1 := rowInts h.taken
  have t2 := rowInts h'.taken
  rw [h.num.vl] at v1 v2
  rw [h.num.tl] at t1 t2
  obtain ⟨ea, ec, he, -⟩ := id e1
  obtain ⟨fa, fc, he', -⟩ := id e2
  subst he
  subst he'
  exact sameRun_walk ea _ ec fa fc b1 b2 c1 c2 vn yn _ _ w (hide fun W hW => sameEvents_eq r.2.ev _ _ W (e1.over hW) (e2.over hW) (by omega))
    (hide fun W hW => sameInts_eq r.2.vars _ _ W (v1.over hW) (v2.over hW) (by rw [h.num.vl]; omega)) (hide fun W hW => sameInts_eq r.2.taken _ _ W (t1.over hW) (t2.over hW) (by rw [h.num.tl]; omega))

set_option maxHeartbeats 2000000 in
set_option maxRecDepth 100000 in
theorem begins_eq (l m : List Ev4) (va vb : Value) (w : World) (ha : EvAt w va l) (hb : EvAt w vb m) (hp : l <+: m) (hl : m.length ≤ 2000) :
    Calls Try.prog 8 #[va, vb] w fun e w' => e = .returned (.bool true) ∧ Below w.heap.size w w' := by
  have hlm : l.length ≤ m.length := hp.length_le
  obtain ⟨ao, ac, rfl, ha1, ha2, hac⟩ := id ha
  obtain ⟨bo, bc, rfl, hb1, hb2, hbc⟩ := hb
  have hb2' : bc ≤ 9223372036854775807 := hb2
  have K := hide (sameEvents_eq l (.slice ao l.length ac) (.slice bo l.length bc) w ha ⟨bo, bc, rfl, by omega, hb2, fun hne => by
    obtain ⟨b, h1, h2⟩ := hbc (by intro hz; rw [hz] at hp; exact hne (List.prefix_nil.1 hp))
    exact ⟨b, h1, evCells_prefix hp h2⟩⟩ (by omega))
  obtain ⟨n1, hn1⟩ : ∃ q, q = l.length := ⟨_, rfl⟩
  obtain ⟨n2, hn2⟩ : ∃ q, q = m.length := ⟨_, rfl⟩
  rw [← hn1, ← hn2] at hlm
  rw [← hn1] at K
  have hle : (n1 : Int) ≤ (n2 : Int) := by omega
  have hlb : (n1 : Int) ≤ (bc : Int) := by omega
  rw [← hn1, ← hn2]
  clear ha hac hbc hp hn1 hn2 ha1 ha2
  go_enter Try.func8, Try.ntmps8
  go_wp2_with fail
  refine (K.out).mono ?_
  rintro e w1 ⟨rfl, hb⟩
  go_wp2_with fail
  go_ret
  exact ⟨by first | rfl | simp, hb⟩
end Go.Proofs.Ytpbnmmgocpobcaa.Ex

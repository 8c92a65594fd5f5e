/- Where two lists of events are apart. -/
import Derived.Test.YtcbbjjenkommeaaM24
namespace Go.Proofs.Ytcbbjjenkommeaa.Ex
open Go.RowKit
set_option linter.unusedVariables false
/-- how many are the same from the beginning. -/
def fd : List Ev4 → List Ev4 → Nat
  | a :: l, b :: m => if a = b then fd l m + 1 else 0
  | _, _ => 0
def apartX (l m : List Ev4) : Int := if fd l m = l.length ∧ fd l m = m.length then -1 else (fd l m : Int)
theorem fd_at : ∀ (j : Nat) (l m : List Ev4), j ≤ l.length → j ≤ m.length → l.take j = m.take j → (j = l.length ∨ j = m.length ∨ l[j]? ≠ m[j]?) → fd l m = j
  | 0, [], m, _, _, _, _ => by cases m <;> rfl
  | 0, a :: l, [], _, _, _, _ => rfl
  | 0, a :: l, b :: m, _, _, _, h => by
    have hne : a ≠ b := fun he => by
      rcases h with h | h | h
      · simp at h
      · simp at h
      · exact h (by simp [he])
    simp [fd, hne]
  | j + 1, [], m, h, _, _, _ => by simp at h
  | j + 1, a :: l, [], _, h, _, _ => by simp at h
  | j + 1, a :: l, b :: m, h1, h2, h3, h4 => by
    simp only [List.take_succ_cons, List.cons.injEq] at h3
    obtain ⟨rfl, h3⟩ := h3
    have := fd_at j l m (by simpa using h1) (by simpa using h2) h3 (by simpa using h4)
    simp [fd, this]
theorem take_same {l m : List Ev4} {j : Nat} (h : l.take j = m.take j) (h1 : j < l.length) (h2 : j < m.length) (he : l[j] = m[j]) : l.take (j + 1) = m.take (j + 1) := by
  rw [List.take_succ_eq_append_getElem h1, List.take_succ_eq_append_getElem h2, h, he]

set_option maxHeartbeats 8000000 in
set_option maxRecDepth 100000 in
theorem apart_any (la : Option Addr) (ln lc : Nat) (ma : Option Addr) (mn mc : Nat) (l m : List Ev4) (w : World) (hl : EvL w (.slice la ln lc) l) (hm : EvL w (.slice ma mn mc) m) :
    Calls Try.prog 21 #[.slice la ln lc, .slice ma mn mc] w fun e w' => e = .returned (.int .i64 (apartX l m)) ∧ Below w.heap.size w w' := by
  have hln : ln = l.length := by obtain ⟨-, a, c, he, -⟩ := hl; injection he
  have hmn : mn = m.length := by obtain ⟨-, a, c, he, -⟩ := hm; injection he
  have hlm : l.length ≤ 9223372036854775807 := hl.1
  have hmm : m.length ≤ 9223372036854775807 := hm.1
  have HL := hide hl
  have HM := hide hm
  subst hln hmn
  clear hl hm
  have hap : ∀ j, fd l m = j → j < l.length → apartX l m = (j : Int) := fun j h1 h2 => by
    unfold apartX
    rw [h1, if_neg (by omega)]
  by_cases hlt : m.length < l.length
  · go_enter Try.func21, Try.ntmps21
    go_wp2_with fail
    go_loopw [13] (fun i wr => ∃ j : Nat, i = .int .i64 (j : Int) ∧ j ≤ m.length ∧ l.take j = m.take j ∧ Below w.heap.size w wr) (fun i _ => m.length - (intOf i).toNat)
    case atStart => exact ⟨0, rfl, Nat.zero_le _, by simp, Below.refl _ _⟩
    case round =>
      obtain ⟨j, rfl, hj, htk, hB⟩ := hrel
      by_cases hjB : j < m.length
      rotate_left
      · have hje : j = m.length := by omega
        have hfd := fd_at j l m (by omega) (by omega) htk (Or.inr (Or.inl hje))
        have hax : apartX l m = if l.length = m.length then -1 else (m.length : Int) := by
          unfold apartX
          rw [hfd, hje]
          by_cases hq : l.length = m.length
          · rw [if_pos (by omega), if_pos hq]
          · rw [if_neg (by omega), if_neg hq]
        have HAX := hide hax
        have HB := hide hB
        clear hax hB htk hap hfd
        by_cases hq : l.length = m.length
        · have hqb : ((l.length : Int) == (m.length : Int)) = true := by simp [hq]
          go_wp2_with fail
          go_ret
          exact ⟨by rw [HAX.out, if_pos hq]; rfl, HB.out⟩
        · have hqb : ((l.length : Int) == (m.length : Int)) = false := by simp; omega
          go_wp2_with fail
          go_ret
          exact ⟨by rw [HAX.out, if_neg hq]; rfl, HB.out⟩
      have hj1 : j < l.length := by omega
      have hj2 : j < m.length := by omega
      obtain ⟨-, lo, lcap, hle, hel⟩ := HL.out
      injection hle with e1 e2 e3
      obtain ⟨lb, loff, hlb, hel2⟩ := hel (by intro hz; rw [hz] at hj1; simp at hj1)
      obtain ⟨p0, p1, p2, p3⟩ := hel2 j hj1
      have e1' := e1.trans hlb
      subst e1'
      obtain ⟨-, mo, mcap, hme, hem⟩ := HM.out
      injection hme with f1 f2 f3
      obtain ⟨mb, moff, hmb, hem2⟩ := hem (by intro hz; rw [hz] at hj2; simp at hj2)
      obtain ⟨r0, r1, r2, r3⟩ := hem2 j hj2
      have f1' := f1.trans hmb
      subst f1'
      have q0 := cell_over hB _ _ p0
      have q1 := cell_over hB _ _ p1
      have q2 := cell_over hB _ _ p2
      have q3 := cell_over hB _ _ p3
      have s0 := cell_over hB _ _ r0
      have s1 := cell_over hB _ _ r1
      have s2 := cell_over hB _ _ r2
      have s3 := cell_over hB _ _ r3
      have heq : l[j] = m[j] → l.take (j + 1) = m.take (j + 1) := fun h => take_same htk hj1 hj2 h
      have hne : l[j] ≠ m[j] → fd l m = j := fun h => fd_at j l m (by omega) (by omega) htk (Or.inr (Or.inr (by rw [List.getElem?_eq_getElem hj1, List.getElem?_eq_getElem hj2]; intro hh; exact h (Option.some.inj hh))))
      obtain ⟨E1, hE1⟩ : ∃ q, q = l[j] := ⟨_, rfl⟩
      obtain ⟨E2, hE2⟩ : ∃ q, q = m[j] := ⟨_, rfl⟩
      rw [← hE1] at q0 q1 q2 q3 heq hne
      rw [← hE2] at s0 s1 s2 s3 heq hne
      obtain ⟨x0, x1, x2, x3⟩ := E1
      obtain ⟨y0, y1, y2, y3⟩ := E2
      dsimp only at q0 q1 q2 q3 s0 s1 s2 s3
      have HEQ := hide heq
      have HNE := hide hne
      have HB := hide hB
      have HAP := hide hap
      have i1 : (j : Int) < (l.length : Int) := by omega
      have i2 : (j : Int) < (m.length : Int) := by omega
      clear hel hel2 hem hem2 p0 p1 p2 p3 r0 r1 r2 r3 e1 e2 e3 f1 f2 f3 hlb hmb heq hne hE1 hE2 hB hap htk
      by_cases d0 : x0 = y0
      rotate_left
      · have hb0 : (x0 == y0) = false := by simpa using d0
        have hj0 := HNE.out (by intro h; simp only [Prod.mk.injEq] at h; exact d0 (by simp [h]))
        have HJ := hide (HAP.out j hj0 hj1)
        clear hj0 HNE HEQ HAP d0
        go_wp2_with fail
        go_region
        go_wp2_with fail
        go_ret
        exact ⟨by rw [HJ.out]; rfl, HB.out.trans ((below_drewN (Below.refl _ _) 1).mono HB.out.size)⟩
      subst d0
      by_cases d1 : x1 = y1
      rotate_left
      · have hb1 : (x1 == y1) = false := by simpa using d1
        have hj0 := HNE.out (by intro h; simp only [Prod.mk.injEq] at h; exact d1 (by simp [h]))
        have HJ := hide (HAP.out j hj0 hj1)
        clear hj0 HNE HEQ HAP d1
        go_wp2_with fail
        go_region
        go_wp2_with fail
        go_ret
        exact ⟨by rw [HJ.out]; rfl, HB.out.trans ((below_drewN (Below.refl _ _) 1).mono HB.out.size)⟩
      subst d1
      by_cases d2 : x2 = y2
      rotate_left
      · have hb2 : (x2 == y2) = false := by simpa using d2
        have hj0 := HNE.out (by intro h; simp only [Prod.mk.injEq] at h; exact d2 (by simp [h]))
        have HJ := hide (HAP.out j hj0 hj1)
        clear hj0 HNE HEQ HAP d2
        go_wp2_with fail
        go_region
        go_wp2_with fail
        go_ret
        exact ⟨by rw [HJ.out]; rfl, HB.out.trans ((below_drewN (Below.refl _ _) 1).mono HB.out.size)⟩
      subst d2
      by_cases d3 : x3 = y3
      rotate_left
      · have hb3 : (x3 == y3) = false := by simpa using d3
        have hj0 := HNE.out (by intro h; simp only [Prod.mk.injEq] at h; exact d3 (by simp [h]))
        have HJ := hide (HAP.out j hj0 hj1)
        clear hj0 HNE HEQ HAP d3
        go_wp2_with fail
        go_region
        go_wp2_with fail
        go_ret
        exact ⟨by rw [HJ.out]; rfl, HB.out.trans ((below_drewN (Below.refl _ _) 1).mono HB.out.size)⟩
      subst d3
      have HT := hide (HEQ.out rfl)
      clear HNE HEQ HAP
      go_wp2_with fail
      go_region
      go_wp2_with fail
      exact ⟨⟨j + 1, by go_num, by omega, HT.out, HB.out.trans ((below_drewN (Below.refl _ _) 1).mono HB.out.size)⟩, by simp [intOf]; omega⟩
  · go_enter Try.func21, Try.ntmps21
    go_wp2_with fail
    go_loopw [13] (fun i wr => ∃ j : Nat, i = .int .i64 (j : Int) ∧ j ≤ l.length ∧ l.take j = m.take j ∧ Below w.heap.size w wr) (fun i _ => l.length - (intOf i).toNat)
    case atStart => exact ⟨0, rfl, Nat.zero_le _, by simp, Below.refl _ _⟩
    case round =>
      obtain ⟨j, rfl, hj, htk, hB⟩ := hrel
      by_cases hjB : j < l.length
      rotate_left
      · have hje : j = l.length := by omega
        have hfd := fd_at j l m (by omega) (by omega) htk (Or.inl hje)
        have hax : apartX l m = if l.length = m.length then -1 else (l.length : Int) := by
          unfold apartX
          rw [hfd, hje]
          by_cases hq : l.length = m.length
          · rw [if_pos (by omega), if_pos hq]
          · rw [if_neg (by omega), if_neg hq]
        have HAX := hide hax
        have HB := hide hB
        clear hax hB htk hap hfd
        by_cases hq : l.length = m.length
        · have hqb : ((l.length : Int) == (m.length : Int)) = true := by simp [hq]
          go_wp2_with fail
          go_ret
          exact ⟨by rw [HAX.out, if_pos hq]; rfl, HB.out⟩
        · have hqb : ((l.length : Int) == (m.length : Int)) = false := by simp; omega
          go_wp2_with fail
          go_ret
          exact ⟨by rw [HAX.out, if_neg hq]; rfl, HB.out⟩
      have hj1 : j < l.length := by omega
      have hj2 : j < m.length := by omega
      obtain ⟨-, lo, lcap, hle, hel⟩ := HL.out
      injection hle with e1 e2 e3
      obtain ⟨lb, loff, hlb, hel2⟩ := hel (by intro hz; rw [hz] at hj1; simp at hj1)
      obtain ⟨p0, p1, p2, p3⟩ := hel2 j hj1
      have e1' := e1.trans hlb
      subst e1'
      obtain ⟨-, mo, mcap, hme, hem⟩ := HM.out
      injection hme with f1 f2 f3
      obtain ⟨mb, moff, hmb, hem2⟩ := hem (by intro hz; rw [hz] at hj2; simp at hj2)
      obtain ⟨r0, r1, r2, r3⟩ := hem2 j hj2
      have f1' := f1.trans hmb
      subst f1'
      have q0 := cell_over hB _ _ p0
      have q1 := cell_over hB _ _ p1
      have q2 := cell_over hB _ _ p2
      have q3 := cell_over hB _ _ p3
      have s0 := cell_over hB _ _ r0
      have s1 := cell_over hB _ _ r1
      have s2 := cell_over hB _ _ r2
      have s3 := cell_over hB _ _ r3
      have heq : l[j] = m[j] → l.take (j + 1) = m.take (j + 1) := fun h => take_same htk hj1 hj2 h
      have hne : l[j] ≠ m[j] → fd l m = j := fun h => fd_at j l m (by omega) (by omega) htk (Or.inr (Or.inr (by rw [List.getElem?_eq_getElem hj1, List.getElem?_eq_getElem hj2]; intro hh; exact h (Option.some.inj hh))))
      obtain ⟨E1, hE1⟩ : ∃ q, q = l[j] := ⟨_, rfl⟩
      obtain ⟨E2, hE2⟩ : ∃ q, q = m[j] := ⟨_, rfl⟩
      rw [← hE1] at q0 q1 q2 q3 heq hne
      rw [← hE2] at s0 s1 s2 s3 heq hne
      obtain ⟨x0, x1, x2, x3⟩ := E1
      obtain ⟨y0, y1, y2, y3⟩ := E2
      dsimp only at q0 q1 q2 q3 s0 s1 s2 s3
      have HEQ := hide heq
      have HNE := hide hne
      have HB := hide hB
      have HAP := hide hap
      have i1 : (j : Int) < (l.length : Int) := by omega
      have i2 : (j : Int) < (m.length : Int) := by omega
      clear hel hel2 hem hem2 p0 p1 p2 p3 r0 r1 r2 r3 e1 e2 e3 f1 f2 f3 hlb hmb heq hne hE1 hE2 hB hap htk
      by_cases d0 : x0 = y0
      rotate_left
      · have hb0 : (x0 == y0) = false := by simpa using d0
        have hj0 := HNE.out (by intro h; simp only [Prod.mk.injEq] at h; exact d0 (by simp [h]))
        have HJ := hide (HAP.out j hj0 hj1)
        clear hj0 HNE HEQ HAP d0
        go_wp2_with fail
        go_region
        go_wp2_with fail
        go_ret
        exact ⟨by rw [HJ.out]; rfl, HB.out.trans ((below_drewN (Below.refl _ _) 1).mono HB.out.size)⟩
      subst d0
      by_cases d1 : x1 = y1
      rotate_left
      · have hb1 : (x1 == y1) = false := by simpa using d1
        have hj0 := HNE.out (by intro h; simp only [Prod.mk.injEq] at h; exact d1 (by simp [h]))
        have HJ := hide (HAP.out j hj0 hj1)
        clear hj0 HNE HEQ HAP d1
        go_wp2_with fail
        go_region
        go_wp2_with fail
        go_ret
        exact ⟨by rw [HJ.out]; rfl, HB.out.trans ((below_drewN (Below.refl _ _) 1).mono HB.out.size)⟩
      subst d1
      by_cases d2 : x2 = y2
      rotate_left
      · have hb2 : (x2 == y2) = false := by simpa using d2
        have hj0 := HNE.out (by intro h; simp only [Prod.mk.injEq] at h; exact d2 (by simp [h]))
        have HJ := hide (HAP.out j hj0 hj1)
        clear hj0 HNE HEQ HAP d2
        go_wp2_with fail
        go_region
        go_wp2_with fail
        go_ret
        exact ⟨by rw [HJ.out]; rfl, HB.out.trans ((below_drewN (Below.refl _ _) 1).mono HB.out.size)⟩
      subst d2
      by_cases d3 : x3 = y3
      rotate_left
      · have hb3 : (x3 == y3) = false := by simpa using d3
        have hj0 := HNE.out (by intro h; simp only [Prod.mk.injEq] at h; exact d3 (by simp [h]))
        have HJ := hide (HAP.out j hj0 hj1)
        clear hj0 HNE HEQ HAP d3
        go_wp2_with fail
        go_region
        go_wp2_with fail
        go_ret
        exact ⟨by rw [HJ.out]; rfl, HB.out.trans ((below_drewN (Below.refl _ _) 1).mono HB.out.size)⟩
      subst d3
      have HT := hide (HEQ.out rfl)
      clear HNE HEQ HAP
      go_wp2_with fail
      go_region
      go_wp2_with fail
      exact ⟨⟨j + 1, by go_num, by omega, HT.out, HB.out.trans ((below_drewN (Below.refl _ _) 1).mono HB.out.size)⟩, by simp [intOf]; omega⟩

set_option maxHeartbeats 8000000 in
set_option maxRecDepth 100000 in
theorem apartOf_any (la : Option Addr) (ln lc : Nat) (ma : Option Addr) (mn mc : Nat) (l m : List Ev4) (w : World) (hl : EvL w (.slice la ln lc) l) (hm : EvL w (.slice ma mn mc) m) :
    Calls Try.prog 22 #[.slice la ln lc, .slice ma mn mc] w fun e w' => e = .returned (.int .i64 (apartX l m)) ∧ Below w.heap.size w w' := by
  have hln : ln = l.length := by obtain ⟨-, a, c, he, -⟩ := hl; injection he
  have hmn : mn = m.length := by obtain ⟨-, a, c, he, -⟩ := hm; injection he
  have hlm : l.length ≤ 9223372036854775807 := hl.1
  have hmm : m.length ≤ 9223372036854775807 := hm.1
  have HL := hide hl
  have HM := hide hm
  subst hln hmn
  clear hl hm
  go_enter Try.func22, Try.ntmps22
  go_wp2_with fail
  go_loopw [5] (fun i wr => ∃ j : Nat, i = .int .i64 (j : Int) ∧ j ≤ l.length ∧ j ≤ m.length ∧ l.take j = m.take j ∧ Below w.heap.size w wr) (fun i _ => l.length - (intOf i).toNat)
  case atStart => exact ⟨0, rfl, Nat.zero_le _, Nat.zero_le _, by simp, Below.refl _ _⟩
  case round =>
    obtain ⟨j, rfl, hjl, hjm, htk, hB⟩ := hrel
    have HEND : Hid (fd l m = j → apartX l m = if j = l.length ∧ j = m.length then -1 else (j : Int)) := fun h => by
      unfold apartX
      rw [h]
    by_cases h1 : j < l.length
    rotate_left
    · have hd1 : decide ((j : Int) < (l.length : Int)) = false := by simp; omega
      have hfd := fd_at j l m hjl hjm htk (Or.inl (by omega))
      have HB := hide (hB.trans ((below_drewN (Below.refl _ _) 1).mono hB.size))
      clear htk hB
      go_wp2_with fail
      refine wp_region_held_drew (S := fun Wz => True) (by kernel_rfl) (trivial) (fun hHeld => ?_)
      refine tk (i := 0) (oi := ⟨some 6, .move (.tmp 5), 3, "machine.go:670", #[], none⟩) (v := ?_) (Or.inl ⟨by rfl, ?_⟩) (by assumption) ?_
      rotate_left
      · intro w' hSw
        (try dsimp only at hSw)
        go_simp
        try with_reducible rfl
      try simp only [aput]
      refine tk (i := 1) (oi := ⟨some 7, .move (.tmp 0), 43, "machine.go:670", #[], none⟩) (v := ?_) (Or.inl ⟨by rfl, ?_⟩) (by assumption) ?_
      rotate_left
      · intro w' hSw
        (try dsimp only at hSw)
        go_simp
        try with_reducible rfl
      try simp only [aput]
      refine tk (i := 2) (oi := { dst := some 8, op := Go.Op.call { callee := Go.Callee.builtin Go.Builtin.len, args := #[Go.Operand.tmp 7], argTypes := #[43] }, type := 3, pos := "machine.go:670", after := #[⟨1, .data⟩], guard := none }) (v := ?_) (Or.inl ⟨by rfl, ?_⟩) (by assumption) ?_
      rotate_left
      · intro w' hSw
        (try dsimp only at hSw)
        go_simp
        try with_reducible rfl
      try simp only [aput]
      refine tk (i := 3) (oi := ⟨some 9, .binOp .lss 3 (.tmp 6) (.tmp 8) 3, 4, "machine.go:670", #[⟨0, .data⟩, ⟨2, .data⟩], none⟩) (v := ?_) (Or.inl ⟨by rfl, ?_⟩) (by assumption) ?_
      rotate_left
      · intro w' hSw
        (try dsimp only at hSw)
        go_simp
        try with_reducible rfl
      try simp only [aput]
      refine tk (i := 4) (oi := ⟨some 10, .move (.tmp 9), 4, "machine.go:670", #[⟨3, .data⟩], none⟩) (v := ?_) (Or.inl ⟨by rfl, ?_⟩) (by assumption) ?_
      rotate_left
      · intro w' hSw
        (try dsimp only at hSw)
        go_simp
        try with_reducible rfl
      try simp only [aput]
      refine tk (i := 5) (oi := ⟨some 11, .move (.tmp 5), 3, "machine.go:670", #[⟨4, .guard⟩], some (4, true)⟩) (v := undef) (Or.inr ⟨by rfl, rfl⟩) (by assumption) ?_
      try simp only [aput]
      refine tk (i := 6) (oi := ⟨some 12, .move (.tmp 1), 43, "machine.go:670", #[⟨4, .guard⟩], some (4, true)⟩) (v := undef) (Or.inr ⟨by rfl, rfl⟩) (by assumption) ?_
      try simp only [aput]
      refine tk (i := 7) (oi := { dst := some 13, op := Go.Op.call { callee := Go.Callee.builtin Go.Builtin.len, args := #[Go.Operand.tmp 12], argTypes := #[43] }, type := 3, pos := "machine.go:670", after := #[⟨6, .data⟩, ⟨4, .guard⟩], guard := some (4, true) }) (v := undef) (Or.inr ⟨by rfl, rfl⟩) (by assumption) ?_
      try simp only [aput]
      refine tk (i := 8) (oi := ⟨some 14, .binOp .lss 3 (.tmp 11) (.tmp 13) 3, 4, "machine.go:670", #[⟨5, .data⟩, ⟨7, .data⟩, ⟨4, .guard⟩], some (4, true)⟩) (v := undef) (Or.inr ⟨by rfl, rfl⟩) (by assumption) ?_
      try simp only [aput]
      refine tk (i := 9) (oi := ⟨some 15, .pick (.tmp 10) (.tmp 14) (.const (Go.Value.bool false)), 4, "machine.go:670", #[⟨4, .data⟩, ⟨8, .data⟩], none⟩) (v := ?_) (Or.inl ⟨by rfl, ?_⟩) (by assumption) ?_
      rotate_left
      · intro w' hSw
        (try dsimp only at hSw)
        go_simp
        try with_reducible rfl
      try simp only [aput]
      refine tk (i := 10) (oi := ⟨some 16, .move (.tmp 15), 4, "machine.go:670", #[⟨9, .data⟩, ⟨4, .chain⟩], none⟩) (v := ?_) (Or.inl ⟨by rfl, ?_⟩) (by assumption) ?_
      rotate_left
      · intro w' hSw
        (try dsimp only at hSw)
        go_simp
        try with_reducible rfl
      try simp only [aput]
      refine tk (i := 11) (oi := ⟨some 17, .move (.tmp 0), 43, "machine.go:670", #[⟨10, .guard⟩], some (10, true)⟩) (v := undef) (Or.inr ⟨by rfl, rfl⟩) (by assumption) ?_
      try simp only [aput]
      refine tk (i := 12) (oi := ⟨some 18, .move (.tmp 5), 3, "machine.go:670", #[⟨10, .guard⟩], some (10, true)⟩) (v := undef) (Or.inr ⟨by rfl, rfl⟩) (by assumption) ?_
      try simp only [aput]
      refine tk (i := 13) (oi := ⟨some 19, .indexAddr 43 (.tmp 17) (.tmp 18), 0, "machine.go:670", #[⟨11, .data⟩, ⟨12, .data⟩, ⟨10, .guard⟩], some (10, true)⟩) (v := undef) (Or.inr ⟨by rfl, rfl⟩) (by assumption) ?_
      try simp only [aput]
      refine tk (i := 14) (oi := ⟨some 20, .load 71 (.tmp 19), 71, "machine.go:670", #[⟨13, .data⟩, ⟨10, .guard⟩], some (10, true)⟩) (v := undef) (Or.inr ⟨by rfl, rfl⟩) (by assumption) ?_
      try simp only [aput]
      refine tk (i := 15) (oi := ⟨some 21, .move (.tmp 1), 43, "machine.go:670", #[⟨10, .guard⟩], some (10, true)⟩) (v := undef) (Or.inr ⟨by rfl, rfl⟩) (by assumption) ?_
      try simp only [aput]
      refine tk (i := 16) (oi := ⟨some 22, .move (.tmp 5), 3, "machine.go:670", #[⟨10, .guard⟩], some (10, true)⟩) (v := undef) (Or.inr ⟨by rfl, rfl⟩) (by assumption) ?_
      try simp only [aput]
      refine tk (i := 17) (oi := ⟨some 23, .indexAddr 43 (.tmp 21) (.tmp 22), 0, "machine.go:670", #[⟨15, .data⟩, ⟨16, .data⟩, ⟨10, .guard⟩], some (10, true)⟩) (v := undef) (Or.inr ⟨by rfl, rfl⟩) (by assumption) ?_
      try simp only [aput]
      refine tk (i := 18) (oi := ⟨some 24, .load 71 (.tmp 23), 71, "machine.go:670", #[⟨17, .data⟩, ⟨10, .guard⟩], some (10, true)⟩) (v := undef) (Or.inr ⟨by rfl, rfl⟩) (by assumption) ?_
      try simp only [aput]
      refine tk (i := 19) (oi := ⟨some 25, .binOp .eql 71 (.tmp 20) (.tmp 24) 71, 4, "machine.go:670", #[⟨14, .data⟩, ⟨18, .data⟩, ⟨10, .guard⟩], some (10, true)⟩) (v := undef) (Or.inr ⟨by rfl, rfl⟩) (by assumption) ?_
      try simp only [aput]
      refine tk (i := 20) (oi := ⟨some 26, .pick (.tmp 16) (.tmp 25) (.const (Go.Value.bool false)), 4, "machine.go:670", #[⟨10, .data⟩, ⟨19, .data⟩], none⟩) (v := ?_) (Or.inl ⟨by rfl, ?_⟩) (by assumption) ?_
      rotate_left
      · intro w' hSw
        (try dsimp only at hSw)
        go_simp
        try with_reducible rfl
      try simp only [aput]
      refine wpAnyH_done (by kernel_rfl) ?_ _
      have hax := HEND.out (hfd)
      have HAX := hide hax
      clear hax HEND
      by_cases q1 : j = l.length
      · have qb1 : ((j : Int) == (l.length : Int)) = true := by simp [q1]
        by_cases q2 : j = m.length
        · have qb2 : ((j : Int) == (m.length : Int)) = true := by simp [q2]
          have HR := hide (HAX.out.trans (if_pos ⟨q1, q2⟩))
          clear HAX q1 q2
          go_wp2_with fail
          go_ret
          exact ⟨by rw [HR.out]; rfl, HB.out⟩
        · have qb2 : ((j : Int) == (m.length : Int)) = false := by simp; omega
          have HR := hide (HAX.out.trans (if_neg (fun h => q2 h.2)))
          clear HAX q1 q2
          go_wp2_with fail
          go_ret
          exact ⟨by rw [HR.out]; rfl, HB.out⟩
      · have qb1 : ((j : Int) == (l.length : Int)) = false := by simp; omega
        have HR := hide (HAX.out.trans (if_neg (fun h => q1 h.1)))
        clear HAX q1
        go_wp2_with fail
        go_ret
        exact ⟨by rw [HR.out]; rfl, HB.out⟩
    have hd1 : decide ((j : Int) < (l.length : Int)) = true := by simp; omega
    by_cases h2 : j < m.length
    rotate_left
    · have hd2 : decide ((j : Int) < (m.length : Int)) = false := by simp; omega
      have hfd := fd_at j l m hjl hjm htk (Or.inr (Or.inl (by omega)))
      have HB := hide (hB.trans ((below_drewN (Below.refl _ _) 1).mono hB.size))
      clear htk hB
      go_wp2_with fail
      refine wp_region_held_drew (S := fun Wz => True) (by kernel_rfl) (trivial) (fun hHeld => ?_)
      refine tk (i := 0) (oi := ⟨some 6, .move (.tmp 5), 3, "machine.go:670", #[], none⟩) (v := ?_) (Or.inl ⟨by rfl, ?_⟩) (by assumption) ?_
      rotate_left
      · intro w' hSw
        (try dsimp only at hSw)
        go_simp
        try with_reducible rfl
      try simp only [aput]
      refine tk (i := 1) (oi := ⟨some 7, .move (.tmp 0), 43, "machine.go:670", #[], none⟩) (v := ?_) (Or.inl ⟨by rfl, ?_⟩) (by assumption) ?_
      rotate_left
      · intro w' hSw
        (try dsimp only at hSw)
        go_simp
        try with_reducible rfl
      try simp only [aput]
      refine tk (i := 2) (oi := { dst := some 8, op := Go.Op.call { callee := Go.Callee.builtin Go.Builtin.len, args := #[Go.Operand.tmp 7], argTypes := #[43] }, type := 3, pos := "machine.go:670", after := #[⟨1, .data⟩], guard := none }) (v := ?_) (Or.inl ⟨by rfl, ?_⟩) (by assumption) ?_
      rotate_left
      · intro w' hSw
        (try dsimp only at hSw)
        go_simp
        try with_reducible rfl
      try simp only [aput]
      refine tk (i := 3) (oi := ⟨some 9, .binOp .lss 3 (.tmp 6) (.tmp 8) 3, 4, "machine.go:670", #[⟨0, .data⟩, ⟨2, .data⟩], none⟩) (v := ?_) (Or.inl ⟨by rfl, ?_⟩) (by assumption) ?_
      rotate_left
      · intro w' hSw
        (try dsimp only at hSw)
        go_simp
        try with_reducible rfl
      try simp only [aput]
      refine tk (i := 4) (oi := ⟨some 10, .move (.tmp 9), 4, "machine.go:670", #[⟨3, .data⟩], none⟩) (v := ?_) (Or.inl ⟨by rfl, ?_⟩) (by assumption) ?_
      rotate_left
      · intro w' hSw
        (try dsimp only at hSw)
        go_simp
        try with_reducible rfl
      try simp only [aput]
      refine tk (i := 5) (oi := ⟨some 11, .move (.tmp 5), 3, "machine.go:670", #[⟨4, .guard⟩], some (4, true)⟩) (v := ?_) (Or.inl ⟨by rfl, ?_⟩) (by assumption) ?_
      rotate_left
      · intro w' hSw
        (try dsimp only at hSw)
        go_simp
        try with_reducible rfl
      try simp only [aput]
      refine tk (i := 6) (oi := ⟨some 12, .move (.tmp 1), 43, "machine.go:670", #[⟨4, .guard⟩], some (4, true)⟩) (v := ?_) (Or.inl ⟨by rfl, ?_⟩) (by assumption) ?_
      rotate_left
      · intro w' hSw
        (try dsimp only at hSw)
        go_simp
        try with_reducible rfl
      try simp only [aput]
      refine tk (i := 7) (oi := { dst := some 13, op := Go.Op.call { callee := Go.Callee.builtin Go.Builtin.len, args := #[Go.Operand.tmp 12], argTypes := #[43] }, type := 3, pos := "machine.go:670", after := #[⟨6, .data⟩, ⟨4, .guard⟩], guard := some (4, true) }) (v := ?_) (Or.inl ⟨by rfl, ?_⟩) (by assumption) ?_
      rotate_left
      · intro w' hSw
        (try dsimp only at hSw)
        go_simp
        try with_reducible rfl
      try simp only [aput]
      refine tk (i := 8) (oi := ⟨some 14, .binOp .lss 3 (.tmp 11) (.tmp 13) 3, 4, "machine.go:670", #[⟨5, .data⟩, ⟨7, .data⟩, ⟨4, .guard⟩], some (4, true)⟩) (v := ?_) (Or.inl ⟨by rfl, ?_⟩) (by assumption) ?_
      rotate_left
      · intro w' hSw
        (try dsimp only at hSw)
        go_simp
        try with_reducible rfl
      try simp only [aput]
      refine tk (i := 9) (oi := ⟨some 15, .pick (.tmp 10) (.tmp 14) (.const (Go.Value.bool false)), 4, "machine.go:670", #[⟨4, .data⟩, ⟨8, .data⟩], none⟩) (v := ?_) (Or.inl ⟨by rfl, ?_⟩) (by assumption) ?_
      rotate_left
      · intro w' hSw
        (try dsimp only at hSw)
        go_simp
        try with_reducible rfl
      try simp only [aput]
      refine tk (i := 10) (oi := ⟨some 16, .move (.tmp 15), 4, "machine.go:670", #[⟨9, .data⟩, ⟨4, .chain⟩], none⟩) (v := ?_) (Or.inl ⟨by rfl, ?_⟩) (by assumption) ?_
      rotate_left
      · intro w' hSw
        (try dsimp only at hSw)
        go_simp
        try with_reducible rfl
      try simp only [aput]
      refine tk (i := 11) (oi := ⟨some 17, .move (.tmp 0), 43, "machine.go:670", #[⟨10, .guard⟩], some (10, true)⟩) (v := undef) (Or.inr ⟨by rfl, rfl⟩) (by assumption) ?_
      try simp only [aput]
      refine tk (i := 12) (oi := ⟨some 18, .move (.tmp 5), 3, "machine.go:670", #[⟨10, .guard⟩], some (10, true)⟩) (v := undef) (Or.inr ⟨by rfl, rfl⟩) (by assumption) ?_
      try simp only [aput]
      refine tk (i := 13) (oi := ⟨some 19, .indexAddr 43 (.tmp 17) (.tmp 18), 0, "machine.go:670", #[⟨11, .data⟩, ⟨12, .data⟩, ⟨10, .guard⟩], some (10, true)⟩) (v := undef) (Or.inr ⟨by rfl, rfl⟩) (by assumption) ?_
      try simp only [aput]
      refine tk (i := 14) (oi := ⟨some 20, .load 71 (.tmp 19), 71, "machine.go:670", #[⟨13, .data⟩, ⟨10, .guard⟩], some (10, true)⟩) (v := undef) (Or.inr ⟨by rfl, rfl⟩) (by assumption) ?_
      try simp only [aput]
      refine tk (i := 15) (oi := ⟨some 21, .move (.tmp 1), 43, "machine.go:670", #[⟨10, .guard⟩], some (10, true)⟩) (v := undef) (Or.inr ⟨by rfl, rfl⟩) (by assumption) ?_
      try simp only [aput]
      refine tk (i := 16) (oi := ⟨some 22, .move (.tmp 5), 3, "machine.go:670", #[⟨10, .guard⟩], some (10, true)⟩) (v := undef) (Or.inr ⟨by rfl, rfl⟩) (by assumption) ?_
      try simp only [aput]
      refine tk (i := 17) (oi := ⟨some 23, .indexAddr 43 (.tmp 21) (.tmp 22), 0, "machine.go:670", #[⟨15, .data⟩, ⟨16, .data⟩, ⟨10, .guard⟩], some (10, true)⟩) (v := undef) (Or.inr ⟨by rfl, rfl⟩) (by assumption) ?_
      try simp only [aput]
      refine tk (i := 18) (oi := ⟨some 24, .load 71 (.tmp 23), 71, "machine.go:670", #[⟨17, .data⟩, ⟨10, .guard⟩], some (10, true)⟩) (v := undef) (Or.inr ⟨by rfl, rfl⟩) (by assumption) ?_
      try simp only [aput]
      refine tk (i := 19) (oi := ⟨some 25, .binOp .eql 71 (.tmp 20) (.tmp 24) 71, 4, "machine.go:670", #[⟨14, .data⟩, ⟨18, .data⟩, ⟨10, .guard⟩], some (10, true)⟩) (v := undef) (Or.inr ⟨by rfl, rfl⟩) (by assumption) ?_
      try simp only [aput]
      refine tk (i := 20) (oi := ⟨some 26, .pick (.tmp 16) (.tmp 25) (.const (Go.Value.bool false)), 4, "machine.go:670", #[⟨10, .data⟩, ⟨19, .data⟩], none⟩) (v := ?_) (Or.inl ⟨by rfl, ?_⟩) (by assumption) ?_
      rotate_left
      · intro w' hSw
        (try dsimp only at hSw)
        go_simp
        try with_reducible rfl
      try simp only [aput]
      refine wpAnyH_done (by kernel_rfl) ?_ _
      have hax := HEND.out (hfd)
      have HAX := hide hax
      clear hax HEND
      by_cases q1 : j = l.length
      · have qb1 : ((j : Int) == (l.length : Int)) = true := by simp [q1]
        by_cases q2 : j = m.length
        · have qb2 : ((j : Int) == (m.length : Int)) = true := by simp [q2]
          have HR := hide (HAX.out.trans (if_pos ⟨q1, q2⟩))
          clear HAX q1 q2
          go_wp2_with fail
          go_ret
          exact ⟨by rw [HR.out]; rfl, HB.out⟩
        · have qb2 : ((j : Int) == (m.length : Int)) = false := by simp; omega
          have HR := hide (HAX.out.trans (if_neg (fun h => q2 h.2)))
          clear HAX q1 q2
          go_wp2_with fail
          go_ret
          exact ⟨by rw [HR.out]; rfl, HB.out⟩
      · have qb1 : ((j : Int) == (l.length : Int)) = false := by simp; omega
        have HR := hide (HAX.out.trans (if_neg (fun h => q1 h.1)))
        clear HAX q1
        go_wp2_with fail
        go_ret
        exact ⟨by rw [HR.out]; rfl, HB.out⟩
    have hd2 : decide ((j : Int) < (m.length : Int)) = true := by simp; omega
    have hj1 := h1
    have hj2 := h2
    obtain ⟨-, lo, lcap, hle, hel⟩ := HL.out
    injection hle with e1 e2 e3
    obtain ⟨lb, loff, hlb, hel2⟩ := hel (by intro hz; rw [hz] at hj1; simp at hj1)
    obtain ⟨p0, p1, p2, p3⟩ := hel2 j hj1
    have e1' := e1.trans hlb
    subst e1'
    obtain ⟨-, mo, mcap, hme, hem⟩ := HM.out
    injection hme with f1 f2 f3
    obtain ⟨mb, moff, hmb, hem2⟩ := hem (by intro hz; rw [hz] at hj2; simp at hj2)
    obtain ⟨r0, r1, r2, r3⟩ := hem2 j hj2
    have f1' := f1.trans hmb
    subst f1'
    have q0 := cell_over hB _ _ p0
    have s0 := cell_over hB _ _ r0
    have q1 := cell_over hB _ _ p1
    have s1 := cell_over hB _ _ r1
    have q2 := cell_over hB _ _ p2
    have s2 := cell_over hB _ _ r2
    have q3 := cell_over hB _ _ p3
    have s3 := cell_over hB _ _ r3
    have heq : l[j] = m[j] → l.take (j + 1) = m.take (j + 1) := fun h => take_same htk hj1 hj2 h
    have hne : l[j] ≠ m[j] → fd l m = j := fun h => fd_at j l m (by omega) (by omega) htk (Or.inr (Or.inr (by rw [List.getElem?_eq_getElem hj1, List.getElem?_eq_getElem hj2]; intro hh; exact h (Option.some.inj hh))))
    obtain ⟨E1, hE1⟩ : ∃ q, q = l[j] := ⟨_, rfl⟩
    obtain ⟨E2, hE2⟩ : ∃ q, q = m[j] := ⟨_, rfl⟩
    rw [← hE1] at q0 q1 q2 q3 heq hne
    rw [← hE2] at s0 s1 s2 s3 heq hne
    obtain ⟨x0, x1, x2, x3⟩ := E1
    obtain ⟨y0, y1, y2, y3⟩ := E2
    dsimp only at q0 q1 q2 q3 s0 s1 s2 s3
    have HEQ := hide heq
    have HNE := hide hne
    have HB := hide (hB.trans ((below_drewN (Below.refl _ _) 1).mono hB.size))
    have i1 : (j : Int) < (l.length : Int) := by omega
    have i2 : (j : Int) < (m.length : Int) := by omega
    clear hel hel2 hem hem2 p0 p1 p2 p3 r0 r1 r2 r3 e1 e2 e3 f1 f2 f3 hlb hmb heq hne hE1 hE2 hB htk
    by_cases d0 : x0 = y0
    rotate_left
    · have hb0 : (x0 == y0) = false := by simpa using d0
      have hj0 := HNE.out (by intro h; simp only [Prod.mk.injEq] at h; exact d0 (by simp [h]))
      clear HNE HEQ d0
      go_wp2_with fail
      refine wp_region_held_drew (S := fun Wz => Wz.cell? ⟨lb, loff + j * 4, none⟩ = some (.int .i64 x0) ∧ Wz.cell? ⟨lb, loff + j * 4 + 1, none⟩ = some (.int .i64 x1) ∧ Wz.cell? ⟨lb, loff + j * 4 + 2, none⟩ = some (.int .i64 x2) ∧ Wz.cell? ⟨lb, loff + j * 4 + 3, none⟩ = some (.int .i64 x3) ∧ Wz.cell? ⟨mb, moff + j * 4, none⟩ = some (.int .i64 y0) ∧ Wz.cell? ⟨mb, moff + j * 4 + 1, none⟩ = some (.int .i64 y1) ∧ Wz.cell? ⟨mb, moff + j * 4 + 2, none⟩ = some (.int .i64 y2) ∧ Wz.cell? ⟨mb, moff + j * 4 + 3, none⟩ = some (.int .i64 y3)) (by kernel_rfl) (⟨q0, q1, q2, q3, s0, s1, s2, s3⟩) (fun hHeld => ?_)
      refine tk (i := 0) (oi := ⟨some 6, .move (.tmp 5), 3, "machine.go:670", #[], none⟩) (v := ?_) (Or.inl ⟨by rfl, ?_⟩) (by assumption) ?_
      rotate_left
      · intro w' hSw
        (try dsimp only at hSw)
        go_simp
        try with_reducible rfl
      try simp only [aput]
      refine tk (i := 1) (oi := ⟨some 7, .move (.tmp 0), 43, "machine.go:670", #[], none⟩) (v := ?_) (Or.inl ⟨by rfl, ?_⟩) (by assumption) ?_
      rotate_left
      · intro w' hSw
        (try dsimp only at hSw)
        go_simp
        try with_reducible rfl
      try simp only [aput]
      refine tk (i := 2) (oi := { dst := some 8, op := Go.Op.call { callee := Go.Callee.builtin Go.Builtin.len, args := #[Go.Operand.tmp 7], argTypes := #[43] }, type := 3, pos := "machine.go:670", after := #[⟨1, .data⟩], guard := none }) (v := ?_) (Or.inl ⟨by rfl, ?_⟩) (by assumption) ?_
      rotate_left
      · intro w' hSw
        (try dsimp only at hSw)
        go_simp
        try with_reducible rfl
      try simp only [aput]
      refine tk (i := 3) (oi := ⟨some 9, .binOp .lss 3 (.tmp 6) (.tmp 8) 3, 4, "machine.go:670", #[⟨0, .data⟩, ⟨2, .data⟩], none⟩) (v := ?_) (Or.inl ⟨by rfl, ?_⟩) (by assumption) ?_
      rotate_left
      · intro w' hSw
        (try dsimp only at hSw)
        go_simp
        try with_reducible rfl
      try simp only [aput]
      refine tk (i := 4) (oi := ⟨some 10, .move (.tmp 9), 4, "machine.go:670", #[⟨3, .data⟩], none⟩) (v := ?_) (Or.inl ⟨by rfl, ?_⟩) (by assumption) ?_
      rotate_left
      · intro w' hSw
        (try dsimp only at hSw)
        go_simp
        try with_reducible rfl
      try simp only [aput]
      refine tk (i := 5) (oi := ⟨some 11, .move (.tmp 5), 3, "machine.go:670", #[⟨4, .guard⟩], some (4, true)⟩) (v := ?_) (Or.inl ⟨by rfl, ?_⟩) (by assumption) ?_
      rotate_left
      · intro w' hSw
        (try dsimp only at hSw)
        go_simp
        try with_reducible rfl
      try simp only [aput]
      refine tk (i := 6) (oi := ⟨some 12, .move (.tmp 1), 43, "machine.go:670", #[⟨4, .guard⟩], some (4, true)⟩) (v := ?_) (Or.inl ⟨by rfl, ?_⟩) (by assumption) ?_
      rotate_left
      · intro w' hSw
        (try dsimp only at hSw)
        go_simp
        try with_reducible rfl
      try simp only [aput]
      refine tk (i := 7) (oi := { dst := some 13, op := Go.Op.call { callee := Go.Callee.builtin Go.Builtin.len, args := #[Go.Operand.tmp 12], argTypes := #[43] }, type := 3, pos := "machine.go:670", after := #[⟨6, .data⟩, ⟨4, .guard⟩], guard := some (4, true) }) (v := ?_) (Or.inl ⟨by rfl, ?_⟩) (by assumption) ?_
      rotate_left
      · intro w' hSw
        (try dsimp only at hSw)
        go_simp
        try with_reducible rfl
      try simp only [aput]
      refine tk (i := 8) (oi := ⟨some 14, .binOp .lss 3 (.tmp 11) (.tmp 13) 3, 4, "machine.go:670", #[⟨5, .data⟩, ⟨7, .data⟩, ⟨4, .guard⟩], some (4, true)⟩) (v := ?_) (Or.inl ⟨by rfl, ?_⟩) (by assumption) ?_
      rotate_left
      · intro w' hSw
        (try dsimp only at hSw)
        go_simp
        try with_reducible rfl
      try simp only [aput]
      refine tk (i := 9) (oi := ⟨some 15, .pick (.tmp 10) (.tmp 14) (.const (Go.Value.bool false)), 4, "machine.go:670", #[⟨4, .data⟩, ⟨8, .data⟩], none⟩) (v := ?_) (Or.inl ⟨by rfl, ?_⟩) (by assumption) ?_
      rotate_left
      · intro w' hSw
        (try dsimp only at hSw)
        go_simp
        try with_reducible rfl
      try simp only [aput]
      refine tk (i := 10) (oi := ⟨some 16, .move (.tmp 15), 4, "machine.go:670", #[⟨9, .data⟩, ⟨4, .chain⟩], none⟩) (v := ?_) (Or.inl ⟨by rfl, ?_⟩) (by assumption) ?_
      rotate_left
      · intro w' hSw
        (try dsimp only at hSw)
        go_simp
        try with_reducible rfl
      try simp only [aput]
      refine tk (i := 11) (oi := ⟨some 17, .move (.tmp 0), 43, "machine.go:670", #[⟨10, .guard⟩], some (10, true)⟩) (v := ?_) (Or.inl ⟨by rfl, ?_⟩) (by assumption) ?_
      rotate_left
      · intro w' hSw
        (try dsimp only at hSw)
        go_simp
        try with_reducible rfl
      try simp only [aput]
      refine tk (i := 12) (oi := ⟨some 18, .move (.tmp 5), 3, "machine.go:670", #[⟨10, .guard⟩], some (10, true)⟩) (v := ?_) (Or.inl ⟨by rfl, ?_⟩) (by assumption) ?_
      rotate_left
      · intro w' hSw
        (try dsimp only at hSw)
        go_simp
        try with_reducible rfl
      try simp only [aput]
      refine tk (i := 13) (oi := ⟨some 19, .indexAddr 43 (.tmp 17) (.tmp 18), 0, "machine.go:670", #[⟨11, .data⟩, ⟨12, .data⟩, ⟨10, .guard⟩], some (10, true)⟩) (v := ?_) (Or.inl ⟨by rfl, ?_⟩) (by assumption) ?_
      rotate_left
      · intro w' hSw
        (try dsimp only at hSw)
        go_simp
        try with_reducible rfl
      try simp only [aput]
      refine tk (i := 14) (oi := ⟨some 20, .load 71 (.tmp 19), 71, "machine.go:670", #[⟨13, .data⟩, ⟨10, .guard⟩], some (10, true)⟩) (v := ?_) (Or.inl ⟨by rfl, ?_⟩) (by assumption) ?_
      rotate_left
      · intro w' hSw
        (try dsimp only at hSw)
        go_simp
        try with_reducible rfl
      try simp only [aput]
      refine tk (i := 15) (oi := ⟨some 21, .move (.tmp 1), 43, "machine.go:670", #[⟨10, .guard⟩], some (10, true)⟩) (v := ?_) (Or.inl ⟨by rfl, ?_⟩) (by assumption) ?_
      rotate_left
      · intro w' hSw
        (try dsimp only at hSw)
        go_simp
        try with_reducible rfl
      try simp only [aput]
      refine tk (i := 16) (oi := ⟨some 22, .move (.tmp 5), 3, "machine.go:670", #[⟨10, .guard⟩], some (10, true)⟩) (v := ?_) (Or.inl ⟨by rfl, ?_⟩) (by assumption) ?_
      rotate_left
      · intro w' hSw
        (try dsimp only at hSw)
        go_simp
        try with_reducible rfl
      try simp only [aput]
      refine tk (i := 17) (oi := ⟨some 23, .indexAddr 43 (.tmp 21) (.tmp 22), 0, "machine.go:670", #[⟨15, .data⟩, ⟨16, .data⟩, ⟨10, .guard⟩], some (10, true)⟩) (v := ?_) (Or.inl ⟨by rfl, ?_⟩) (by assumption) ?_
      rotate_left
      · intro w' hSw
        (try dsimp only at hSw)
        go_simp
        try with_reducible rfl
      try simp only [aput]
      refine tk (i := 18) (oi := ⟨some 24, .load 71 (.tmp 23), 71, "machine.go:670", #[⟨17, .data⟩, ⟨10, .guard⟩], some (10, true)⟩) (v := ?_) (Or.inl ⟨by rfl, ?_⟩) (by assumption) ?_
      rotate_left
      · intro w' hSw
        (try dsimp only at hSw)
        go_simp
        try with_reducible rfl
      try simp only [aput]
      refine tk (i := 19) (oi := ⟨some 25, .binOp .eql 71 (.tmp 20) (.tmp 24) 71, 4, "machine.go:670", #[⟨14, .data⟩, ⟨18, .data⟩, ⟨10, .guard⟩], some (10, true)⟩) (v := ?_) (Or.inl ⟨by rfl, ?_⟩) (by assumption) ?_
      rotate_left
      · intro w' hSw
        (try dsimp only at hSw)
        go_simp
        try with_reducible rfl
      try simp only [aput]
      refine tk (i := 20) (oi := ⟨some 26, .pick (.tmp 16) (.tmp 25) (.const (Go.Value.bool false)), 4, "machine.go:670", #[⟨10, .data⟩, ⟨19, .data⟩], none⟩) (v := ?_) (Or.inl ⟨by rfl, ?_⟩) (by assumption) ?_
      rotate_left
      · intro w' hSw
        (try dsimp only at hSw)
        go_simp
        try with_reducible rfl
      try simp only [aput]
      refine wpAnyH_done (by kernel_rfl) ?_ _
      have hax := HEND.out (hj0)
      have HAX := hide hax
      clear hax HEND
      by_cases q1 : j = l.length
      · have qb1 : ((j : Int) == (l.length : Int)) = true := by simp [q1]
        by_cases q2 : j = m.length
        · have qb2 : ((j : Int) == (m.length : Int)) = true := by simp [q2]
          have HR := hide (HAX.out.trans (if_pos ⟨q1, q2⟩))
          clear HAX q1 q2
          go_wp2_with fail
          go_ret
          exact ⟨by rw [HR.out]; rfl, HB.out⟩
        · have qb2 : ((j : Int) == (m.length : Int)) = false := by simp; omega
          have HR := hide (HAX.out.trans (if_neg (fun h => q2 h.2)))
          clear HAX q1 q2
          go_wp2_with fail
          go_ret
          exact ⟨by rw [HR.out]; rfl, HB.out⟩
      · have qb1 : ((j : Int) == (l.length : Int)) = false := by simp; omega
        have HR := hide (HAX.out.trans (if_neg (fun h => q1 h.1)))
        clear HAX q1
        go_wp2_with fail
        go_ret
        exact ⟨by rw [HR.out]; rfl, HB.out⟩
    subst d0
    by_cases d1 : x1 = y1
    rotate_left
    · have hb1 : (x1 == y1) = false := by simpa using d1
      have hj0 := HNE.out (by intro h; simp only [Prod.mk.injEq] at h; exact d1 (by simp [h]))
      clear HNE HEQ d1
      go_wp2_with fail
      refine wp_region_held_drew (S := fun Wz => Wz.cell? ⟨lb, loff + j * 4, none⟩ = some (.int .i64 x0) ∧ Wz.cell? ⟨lb, loff + j * 4 + 1, none⟩ = some (.int .i64 x1) ∧ Wz.cell? ⟨lb, loff + j * 4 + 2, none⟩ = some (.int .i64 x2) ∧ Wz.cell? ⟨lb, loff + j * 4 + 3, none⟩ = some (.int .i64 x3) ∧ Wz.cell? ⟨mb, moff + j * 4, none⟩ = some (.int .i64 x0) ∧ Wz.cell? ⟨mb, moff + j * 4 + 1, none⟩ = some (.int .i64 y1) ∧ Wz.cell? ⟨mb, moff + j * 4 + 2, none⟩ = some (.int .i64 y2) ∧ Wz.cell? ⟨mb, moff + j * 4 + 3, none⟩ = some (.int .i64 y3)) (by kernel_rfl) (⟨q0, q1, q2, q3, s0, s1, s2, s3⟩) (fun hHeld => ?_)
      refine tk (i := 0) (oi := ⟨some 6, .move (.tmp 5), 3, "machine.go:670", #[], none⟩) (v := ?_) (Or.inl ⟨by rfl, ?_⟩) (by assumption) ?_
      rotate_left
      · intro w' hSw
        (try dsimp only at hSw)
        go_simp
        try with_reducible rfl
      try simp only [aput]
      refine tk (i := 1) (oi := ⟨some 7, .move (.tmp 0), 43, "machine.go:670", #[], none⟩) (v := ?_) (Or.inl ⟨by rfl, ?_⟩) (by assumption) ?_
      rotate_left
      · intro w' hSw
        (try dsimp only at hSw)
        go_simp
        try with_reducible rfl
      try simp only [aput]
      refine tk (i := 2) (oi := { dst := some 8, op := Go.Op.call { callee := Go.Callee.builtin Go.Builtin.len, args := #[Go.Operand.tmp 7], argTypes := #[43] }, type := 3, pos := "machine.go:670", after := #[⟨1, .data⟩], guard := none }) (v := ?_) (Or.inl ⟨by rfl, ?_⟩) (by assumption) ?_
      rotate_left
      · intro w' hSw
        (try dsimp only at hSw)
        go_simp
        try with_reducible rfl
      try simp only [aput]
      refine tk (i := 3) (oi := ⟨some 9, .binOp .lss 3 (.tmp 6) (.tmp 8) 3, 4, "machine.go:670", #[⟨0, .data⟩, ⟨2, .data⟩], none⟩) (v := ?_) (Or.inl ⟨by rfl, ?_⟩) (by assumption) ?_
      rotate_left
      · intro w' hSw
        (try dsimp only at hSw)
        go_simp
        try with_reducible rfl
      try simp only [aput]
      refine tk (i := 4) (oi := ⟨some 10, .move (.tmp 9), 4, "machine.go:670", #[⟨3, .data⟩], none⟩) (v := ?_) (Or.inl ⟨by rfl, ?_⟩) (by assumption) ?_
      rotate_left
      · intro w' hSw
        (try dsimp only at hSw)
        go_simp
        try with_reducible rfl
      try simp only [aput]
      refine tk (i := 5) (oi := ⟨some 11, .move (.tmp 5), 3, "machine.go:670", #[⟨4, .guard⟩], some (4, true)⟩) (v := ?_) (Or.inl ⟨by rfl, ?_⟩) (by assumption) ?_
      rotate_left
      · intro w' hSw
        (try dsimp only at hSw)
        go_simp
        try with_reducible rfl
      try simp only [aput]
      refine tk (i := 6) (oi := ⟨some 12, .move (.tmp 1), 43, "machine.go:670", #[⟨4, .guard⟩], some (4, true)⟩) (v := ?_) (Or.inl ⟨by rfl, ?_⟩) (by assumption) ?_
      rotate_left
      · intro w' hSw
        (try dsimp only at hSw)
        go_simp
        try with_reducible rfl
      try simp only [aput]
      refine tk (i := 7) (oi := { dst := some 13, op := Go.Op.call { callee := Go.Callee.builtin Go.Builtin.len, args := #[Go.Operand.tmp 12], argTypes := #[43] }, type := 3, pos := "machine.go:670", after := #[⟨6, .data⟩, ⟨4, .guard⟩], guard := some (4, true) }) (v := ?_) (Or.inl ⟨by rfl, ?_⟩) (by assumption) ?_
      rotate_left
      · intro w' hSw
        (try dsimp only at hSw)
        go_simp
        try with_reducible rfl
      try simp only [aput]
      refine tk (i := 8) (oi := ⟨some 14, .binOp .lss 3 (.tmp 11) (.tmp 13) 3, 4, "machine.go:670", #[⟨5, .data⟩, ⟨7, .data⟩, ⟨4, .guard⟩], some (4, true)⟩) (v := ?_) (Or.inl ⟨by rfl, ?_⟩) (by assumption) ?_
      rotate_left
      · intro w' hSw
        (try dsimp only at hSw)
        go_simp
        try with_reducible rfl
      try simp only [aput]
      refine tk (i := 9) (oi := ⟨some 15, .pick (.tmp 10) (.tmp 14) (.const (Go.Value.bool false)), 4, "machine.go:670", #[⟨4, .data⟩, ⟨8, .data⟩], none⟩) (v := ?_) (Or.inl ⟨by rfl, ?_⟩) (by assumption) ?_
      rotate_left
      · intro w' hSw
        (try dsimp only at hSw)
        go_simp
        try with_reducible rfl
      try simp only [aput]
      refine tk (i := 10) (oi := ⟨some 16, .move (.tmp 15), 4, "machine.go:670", #[⟨9, .data⟩, ⟨4, .chain⟩], none⟩) (v := ?_) (Or.inl ⟨by rfl, ?_⟩) (by assumption) ?_
      rotate_left
      · intro w' hSw
        (try dsimp only at hSw)
        go_simp
        try with_reducible rfl
      try simp only [aput]
      refine tk (i := 11) (oi := ⟨some 17, .move (.tmp 0), 43, "machine.go:670", #[⟨10, .guard⟩], some (10, true)⟩) (v := ?_) (Or.inl ⟨by rfl, ?_⟩) (by assumption) ?_
      rotate_left
      · intro w' hSw
        (try dsimp only at hSw)
        go_simp
        try with_reducible rfl
      try simp only [aput]
      refine tk (i := 12) (oi := ⟨some 18, .move (.tmp 5), 3, "machine.go:670", #[⟨10, .guard⟩], some (10, true)⟩) (v := ?_) (Or.inl ⟨by rfl, ?_⟩) (by assumption) ?_
      rotate_left
      · intro w' hSw
        (try dsimp only at hSw)
        go_simp
        try with_reducible rfl
      try simp only [aput]
      refine tk (i := 13) (oi := ⟨some 19, .indexAddr 43 (.tmp 17) (.tmp 18), 0, "machine.go:670", #[⟨11, .data⟩, ⟨12, .data⟩, ⟨10, .guard⟩], some (10, true)⟩) (v := ?_) (Or.inl ⟨by rfl, ?_⟩) (by assumption) ?_
      rotate_left
      · intro w' hSw
        (try dsimp only at hSw)
        go_simp
        try with_reducible rfl
      try simp only [aput]
      refine tk (i := 14) (oi := ⟨some 20, .load 71 (.tmp 19), 71, "machine.go:670", #[⟨13, .data⟩, ⟨10, .guard⟩], some (10, true)⟩) (v := ?_) (Or.inl ⟨by rfl, ?_⟩) (by assumption) ?_
      rotate_left
      · intro w' hSw
        (try dsimp only at hSw)
        go_simp
        try with_reducible rfl
      try simp only [aput]
      refine tk (i := 15) (oi := ⟨some 21, .move (.tmp 1), 43, "machine.go:670", #[⟨10, .guard⟩], some (10, true)⟩) (v := ?_) (Or.inl ⟨by rfl, ?_⟩) (by assumption) ?_
      rotate_left
      · intro w' hSw
        (try dsimp only at hSw)
        go_simp
        try with_reducible rfl
      try simp only [aput]
      refine tk (i := 16) (oi := ⟨some 22, .move (.tmp 5), 3, "machine.go:670", #[⟨10, .guard⟩], some (10, true)⟩) (v := ?_) (Or.inl ⟨by rfl, ?_⟩) (by assumption) ?_
      rotate_left
      · intro w' hSw
        (try dsimp only at hSw)
        go_simp
        try with_reducible rfl
      try simp only [aput]
      refine tk (i := 17) (oi := ⟨some 23, .indexAddr 43 (.tmp 21) (.tmp 22), 0, "machine.go:670", #[⟨15, .data⟩, ⟨16, .data⟩, ⟨10, .guard⟩], some (10, true)⟩) (v := ?_) (Or.inl ⟨by rfl, ?_⟩) (by assumption) ?_
      rotate_left
      · intro w' hSw
        (try dsimp only at hSw)
        go_simp
        try with_reducible rfl
      try simp only [aput]
      refine tk (i := 18) (oi := ⟨some 24, .load 71 (.tmp 23), 71, "machine.go:670", #[⟨17, .data⟩, ⟨10, .guard⟩], some (10, true)⟩) (v := ?_) (Or.inl ⟨by rfl, ?_⟩) (by assumption) ?_
      rotate_left
      · intro w' hSw
        (try dsimp only at hSw)
        go_simp
        try with_reducible rfl
      try simp only [aput]
      refine tk (i := 19) (oi := ⟨some 25, .binOp .eql 71 (.tmp 20) (.tmp 24) 71, 4, "machine.go:670", #[⟨14, .data⟩, ⟨18, .data⟩, ⟨10, .guard⟩], some (10, true)⟩) (v := ?_) (Or.inl ⟨by rfl, ?_⟩) (by assumption) ?_
      rotate_left
      · intro w' hSw
        (try dsimp only at hSw)
        go_simp
        try with_reducible rfl
      try simp only [aput]
      refine tk (i := 20) (oi := ⟨some 26, .pick (.tmp 16) (.tmp 25) (.const (Go.Value.bool false)), 4, "machine.go:670", #[⟨10, .data⟩, ⟨19, .data⟩], none⟩) (v := ?_) (Or.inl ⟨by rfl, ?_⟩) (by assumption) ?_
      rotate_left
      · intro w' hSw
        (try dsimp only at hSw)
        go_simp
        try with_reducible rfl
      try simp only [aput]
      refine wpAnyH_done (by kernel_rfl) ?_ _
      have hax := HEND.out (hj0)
      have HAX := hide hax
      clear hax HEND
      by_cases q1 : j = l.length
      · have qb1 : ((j : Int) == (l.length : Int)) = true := by simp [q1]
        by_cases q2 : j = m.length
        · have qb2 : ((j : Int) == (m.length : Int)) = true := by simp [q2]
          have HR := hide (HAX.out.trans (if_pos ⟨q1, q2⟩))
          clear HAX q1 q2
          go_wp2_with fail
          go_ret
          exact ⟨by rw [HR.out]; rfl, HB.out⟩
        · have qb2 : ((j : Int) == (m.length : Int)) = false := by simp; omega
          have HR := hide (HAX.out.trans (if_neg (fun h => q2 h.2)))
          clear HAX q1 q2
          go_wp2_with fail
          go_ret
          exact ⟨by rw [HR.out]; rfl, HB.out⟩
      · have qb1 : ((j : Int) == (l.length : Int)) = false := by simp; omega
        have HR := hide (HAX.out.trans (if_neg (fun h => q1 h.1)))
        clear HAX q1
        go_wp2_with fail
        go_ret
        exact ⟨by rw [HR.out]; rfl, HB.out⟩
    subst d1
    by_cases d2 : x2 = y2
    rotate_left
    · have hb2 : (x2 == y2) = false := by simpa using d2
      have hj0 := HNE.out (by intro h; simp only [Prod.mk.injEq] at h; exact d2 (by simp [h]))
      clear HNE HEQ d2
      go_wp2_with fail
      refine wp_region_held_drew (S := fun Wz => Wz.cell? ⟨lb, loff + j * 4, none⟩ = some (.int .i64 x0) ∧ Wz.cell? ⟨lb, loff + j * 4 + 1, none⟩ = some (.int .i64 x1) ∧ Wz.cell? ⟨lb, loff + j * 4 + 2, none⟩ = some (.int .i64 x2) ∧ Wz.cell? ⟨lb, loff + j * 4 + 3, none⟩ = some (.int .i64 x3) ∧ Wz.cell? ⟨mb, moff + j * 4, none⟩ = some (.int .i64 x0) ∧ Wz.cell? ⟨mb, moff + j * 4 + 1, none⟩ = some (.int .i64 x1) ∧ Wz.cell? ⟨mb, moff + j * 4 + 2, none⟩ = some (.int .i64 y2) ∧ Wz.cell? ⟨mb, moff + j * 4 + 3, none⟩ = some (.int .i64 y3)) (by kernel_rfl) (⟨q0, q1, q2, q3, s0, s1, s2, s3⟩) (fun hHeld => ?_)
      refine tk (i := 0) (oi := ⟨some 6, .move (.tmp 5), 3, "machine.go:670", #[], none⟩) (v := ?_) (Or.inl ⟨by rfl, ?_⟩) (by assumption) ?_
      rotate_left
      · intro w' hSw
        (try dsimp only at hSw)
        go_simp
        try with_reducible rfl
      try simp only [aput]
      refine tk (i := 1) (oi := ⟨some 7, .move (.tmp 0), 43, "machine.go:670", #[], none⟩) (v := ?_) (Or.inl ⟨by rfl, ?_⟩) (by assumption) ?_
      rotate_left
      · intro w' hSw
        (try dsimp only at hSw)
        go_simp
        try with_reducible rfl
      try simp only [aput]
      refine tk (i := 2) (oi := { dst := some 8, op := Go.Op.call { callee := Go.Callee.builtin Go.Builtin.len, args := #[Go.Operand.tmp 7], argTypes := #[43] }, type := 3, pos := "machine.go:670", after := #[⟨1, .data⟩], guard := none }) (v := ?_) (Or.inl ⟨by rfl, ?_⟩) (by assumption) ?_
      rotate_left
      · intro w' hSw
        (try dsimp only at hSw)
        go_simp
        try with_reducible rfl
      try simp only [aput]
      refine tk (i := 3) (oi := ⟨some 9, .binOp .lss 3 (.tmp 6) (.tmp 8) 3, 4, "machine.go:670", #[⟨0, .data⟩, ⟨2, .data⟩], none⟩) (v := ?_) (Or.inl ⟨by rfl, ?_⟩) (by assumption) ?_
      rotate_left
      · intro w' hSw
        (try dsimp only at hSw)
        go_simp
        try with_reducible rfl
      try simp only [aput]
      refine tk (i := 4) (oi := ⟨some 10, .move (.tmp 9), 4, "machine.go:670", #[⟨3, .data⟩], none⟩) (v := ?_) (Or.inl ⟨by rfl, ?_⟩) (by assumption) ?_
      rotate_left
      · intro w' hSw
        (try dsimp only at hSw)
        go_simp
        try with_reducible rfl
      try simp only [aput]
      refine tk (i := 5) (oi := ⟨some 11, .move (.tmp 5), 3, "machine.go:670", #[⟨4, .guard⟩], some (4, true)⟩) (v := ?_) (Or.inl ⟨by rfl, ?_⟩) (by assumption) ?_
      rotate_left
      · intro w' hSw
        (try dsimp only at hSw)
        go_simp
        try with_reducible rfl
      try simp only [aput]
      refine tk (i := 6) (oi := ⟨some 12, .move (.tmp 1), 43, "machine.go:670", #[⟨4, .guard⟩], some (4, true)⟩) (v := ?_) (Or.inl ⟨by rfl, ?_⟩) (by assumption) ?_
      rotate_left
      · intro w' hSw
        (try dsimp only at hSw)
        go_simp
        try with_reducible rfl
      try simp only [aput]
      refine tk (i := 7) (oi := { dst := some 13, op := Go.Op.call { callee := Go.Callee.builtin Go.Builtin.len, args := #[Go.Operand.tmp 12], argTypes := #[43] }, type := 3, pos := "machine.go:670", after := #[⟨6, .data⟩, ⟨4, .guard⟩], guard := some (4, true) }) (v := ?_) (Or.inl ⟨by rfl, ?_⟩) (by assumption) ?_
      rotate_left
      · intro w' hSw
        (try dsimp only at hSw)
        go_simp
        try with_reducible rfl
      try simp only [aput]
      refine tk (i := 8) (oi := ⟨some 14, .binOp .lss 3 (.tmp 11) (.tmp 13) 3, 4, "machine.go:670", #[⟨5, .data⟩, ⟨7, .data⟩, ⟨4, .guard⟩], some (4, true)⟩) (v := ?_) (Or.inl ⟨by rfl, ?_⟩) (by assumption) ?_
      rotate_left
      · intro w' hSw
        (try dsimp only at hSw)
        go_simp
        try with_reducible rfl
      try simp only [aput]
      refine tk (i := 9) (oi := ⟨some 15, .pick (.tmp 10) (.tmp 14) (.const (Go.Value.bool false)), 4, "machine.go:670", #[⟨4, .data⟩, ⟨8, .data⟩], none⟩) (v := ?_) (Or.inl ⟨by rfl, ?_⟩) (by assumption) ?_
      rotate_left
      · intro w' hSw
        (try dsimp only at hSw)
        go_simp
        try with_reducible rfl
      try simp only [aput]
      refine tk (i := 10) (oi := ⟨some 16, .move (.tmp 15), 4, "machine.go:670", #[⟨9, .data⟩, ⟨4, .chain⟩], none⟩) (v := ?_) (Or.inl ⟨by rfl, ?_⟩) (by assumption) ?_
      rotate_left
      · intro w' hSw
        (try dsimp only at hSw)
        go_simp
        try with_reducible rfl
      try simp only [aput]
      refine tk (i := 11) (oi := ⟨some 17, .move (.tmp 0), 43, "machine.go:670", #[⟨10, .guard⟩], some (10, true)⟩) (v := ?_) (Or.inl ⟨by rfl, ?_⟩) (by assumption) ?_
      rotate_left
      · intro w' hSw
        (try dsimp only at hSw)
        go_simp
        try with_reducible rfl
      try simp only [aput]
      refine tk (i := 12) (oi := ⟨some 18, .move (.tmp 5), 3, "machine.go:670", #[⟨10, .guard⟩], some (10, true)⟩) (v := ?_) (Or.inl ⟨by rfl, ?_⟩) (by assumption) ?_
      rotate_left
      · intro w' hSw
        (try dsimp only at hSw)
        go_simp
        try with_reducible rfl
      try simp only [aput]
      refine tk (i := 13) (oi := ⟨some 19, .indexAddr 43 (.tmp 17) (.tmp 18), 0, "machine.go:670", #[⟨11, .data⟩, ⟨12, .data⟩, ⟨10, .guard⟩], some (10, true)⟩) (v := ?_) (Or.inl ⟨by rfl, ?_⟩) (by assumption) ?_
      rotate_left
      · intro w' hSw
        (try dsimp only at hSw)
        go_simp
        try with_reducible rfl
      try simp only [aput]
      refine tk (i := 14) (oi := ⟨some 20, .load 71 (.tmp 19), 71, "machine.go:670", #[⟨13, .data⟩, ⟨10, .guard⟩], some (10, true)⟩) (v := ?_) (Or.inl ⟨by rfl, ?_⟩) (by assumption) ?_
      rotate_left
      · intro w' hSw
        (try dsimp only at hSw)
        go_simp
        try with_reducible rfl
      try simp only [aput]
      refine tk (i := 15) (oi := ⟨some 21, .move (.tmp 1), 43, "machine.go:670", #[⟨10, .guard⟩], some (10, true)⟩) (v := ?_) (Or.inl ⟨by rfl, ?_⟩) (by assumption) ?_
      rotate_left
      · intro w' hSw
        (try dsimp only at hSw)
        go_simp
        try with_reducible rfl
      try simp only [aput]
      refine tk (i := 16) (oi := ⟨some 22, .move (.tmp 5), 3, "machine.go:670", #[⟨10, .guard⟩], some (10, true)⟩) (v := ?_) (Or.inl ⟨by rfl, ?_⟩) (by assumption) ?_
      rotate_left
      · intro w' hSw
        (try dsimp only at hSw)
        go_simp
        try with_reducible rfl
      try simp only [aput]
      refine tk (i := 17) (oi := ⟨some 23, .indexAddr 43 (.tmp 21) (.tmp 22), 0, "machine.go:670", #[⟨15, .data⟩, ⟨16, .data⟩, ⟨10, .guard⟩], some (10, true)⟩) (v := ?_) (Or.inl ⟨by rfl, ?_⟩) (by assumption) ?_
      rotate_left
      · intro w' hSw
        (try dsimp only at hSw)
        go_simp
        try with_reducible rfl
      try simp only [aput]
      refine tk (i := 18) (oi := ⟨some 24, .load 71 (.tmp 23), 71, "machine.go:670", #[⟨17, .data⟩, ⟨10, .guard⟩], some (10, true)⟩) (v := ?_) (Or.inl ⟨by rfl, ?_⟩) (by assumption) ?_
      rotate_left
      · intro w' hSw
        (try dsimp only at hSw)
        go_simp
        try with_reducible rfl
      try simp only [aput]
      refine tk (i := 19) (oi := ⟨some 25, .binOp .eql 71 (.tmp 20) (.tmp 24) 71, 4, "machine.go:670", #[⟨14, .data⟩, ⟨18, .data⟩, ⟨10, .guard⟩], some (10, true)⟩) (v := ?_) (Or.inl ⟨by rfl, ?_⟩) (by assumption) ?_
      rotate_left
      · intro w' hSw
        (try dsimp only at hSw)
        go_simp
        try with_reducible rfl
      try simp only [aput]
      refine tk (i := 20) (oi := ⟨some 26, .pick (.tmp 16) (.tmp 25) (.const (Go.Value.bool false)), 4, "machine.go:670", #[⟨10, .data⟩, ⟨19, .data⟩], none⟩) (v := ?_) (Or.inl ⟨by rfl, ?_⟩) (by assumption) ?_
      rotate_left
      · intro w' hSw
        (try dsimp only at hSw)
        go_simp
        try with_reducible rfl
      try simp only [aput]
      refine wpAnyH_done (by kernel_rfl) ?_ _
      have hax := HEND.out (hj0)
      have HAX := hide hax
      clear hax HEND
      by_cases q1 : j = l.length
      · have qb1 : ((j : Int) == (l.length : Int)) = true := by simp [q1]
        by_cases q2 : j = m.length
        · have qb2 : ((j : Int) == (m.length : Int)) = true := by simp [q2]
          have HR := hide (HAX.out.trans (if_pos ⟨q1, q2⟩))
          clear HAX q1 q2
          go_wp2_with fail
          go_ret
          exact ⟨by rw [HR.out]; rfl, HB.out⟩
        · have qb2 : ((j : Int) == (m.length : Int)) = false := by simp; omega
          have HR := hide (HAX.out.trans (if_neg (fun h => q2 h.2)))
          clear HAX q1 q2
          go_wp2_with fail
          go_ret
          exact ⟨by rw [HR.out]; rfl, HB.out⟩
      · have qb1 : ((j : Int) == (l.length : Int)) = false := by simp; omega
        have HR := hide (HAX.out.trans (if_neg (fun h => q1 h.1)))
        clear HAX q1
        go_wp2_with fail
        go_ret
        exact ⟨by rw [HR.out]; rfl, HB.out⟩
    subst d2
    by_cases d3 : x3 = y3
    rotate_left
    · have hb3 : (x3 == y3) = false := by simpa using d3
      have hj0 := HNE.out (by intro h; simp only [Prod.mk.injEq] at h; exact d3 (by simp [h]))
      clear HNE HEQ d3
      go_wp2_with fail
      refine wp_region_held_drew (S := fun Wz => Wz.cell? ⟨lb, loff + j * 4, none⟩ = some (.int .i64 x0) ∧ Wz.cell? ⟨lb, loff + j * 4 + 1, none⟩ = some (.int .i64 x1) ∧ Wz.cell? ⟨lb, loff + j * 4 + 2, none⟩ = some (.int .i64 x2) ∧ Wz.cell? ⟨lb, loff + j * 4 + 3, none⟩ = some (.int .i64 x3) ∧ Wz.cell? ⟨mb, moff + j * 4, none⟩ = some (.int .i64 x0) ∧ Wz.cell? ⟨mb, moff + j * 4 + 1, none⟩ = some (.int .i64 x1) ∧ Wz.cell? ⟨mb, moff + j * 4 + 2, none⟩ = some (.int .i64 x2) ∧ Wz.cell? ⟨mb, moff + j * 4 + 3, none⟩ = some (.int .i64 y3)) (by kernel_rfl) (⟨q0, q1, q2, q3, s0, s1, s2, s3⟩) (fun hHeld => ?_)
      refine tk (i := 0) (oi := ⟨some 6, .move (.tmp 5), 3, "machine.go:670", #[], none⟩) (v := ?_) (Or.inl ⟨by rfl, ?_⟩) (by assumption) ?_
      rotate_left
      · intro w' hSw
        (try dsimp only at hSw)
        go_simp
        try with_reducible rfl
      try simp only [aput]
      refine tk (i := 1) (oi := ⟨some 7, .move (.tmp 0), 43, "machine.go:670", #[], none⟩) (v := ?_) (Or.inl ⟨by rfl, ?_⟩) (by assumption) ?_
      rotate_left
      · intro w' hSw
        (try dsimp only at hSw)
        go_simp
        try with_reducible rfl
      try simp only [aput]
      refine tk (i := 2) (oi := { dst := some 8, op := Go.Op.call { callee := Go.Callee.builtin Go.Builtin.len, args := #[Go.Operand.tmp 7], argTypes := #[43] }, type := 3, pos := "machine.go:670", after := #[⟨1, .data⟩], guard := none }) (v := ?_) (Or.inl ⟨by rfl, ?_⟩) (by assumption) ?_
      rotate_left
      · intro w' hSw
        (try dsimp only at hSw)
        go_simp
        try with_reducible rfl
      try simp only [aput]
      refine tk (i := 3) (oi := ⟨some 9, .binOp .lss 3 (.tmp 6) (.tmp 8) 3, 4, "machine.go:670", #[⟨0, .data⟩, ⟨2, .data⟩], none⟩) (v := ?_) (Or.inl ⟨by rfl, ?_⟩) (by assumption) ?_
      rotate_left
      · intro w' hSw
        (try dsimp only at hSw)
        go_simp
        try with_reducible rfl
      try simp only [aput]
      refine tk (i := 4) (oi := ⟨some 10, .move (.tmp 9), 4, "machine.go:670", #[⟨3, .data⟩], none⟩) (v := ?_) (Or.inl ⟨by rfl, ?_⟩) (by assumption) ?_
      rotate_left
      · intro w' hSw
        (try dsimp only at hSw)
        go_simp
        try with_reducible rfl
      try simp only [aput]
      refine tk (i := 5) (oi := ⟨some 11, .move (.tmp 5), 3, "machine.go:670", #[⟨4, .guard⟩], some (4, true)⟩) (v := ?_) (Or.inl ⟨by rfl, ?_⟩) (by assumption) ?_
      rotate_left
      · intro w' hSw
        (try dsimp only at hSw)
        go_simp
        try with_reducible rfl
      try simp only [aput]
      refine tk (i := 6) (oi := ⟨some 12, .move (.tmp 1), 43, "machine.go:670", #[⟨4, .guard⟩], some (4, true)⟩) (v := ?_) (Or.inl ⟨by rfl, ?_⟩) (by assumption) ?_
      rotate_left
      · intro w' hSw
        (try dsimp only at hSw)
        go_simp
        try with_reducible rfl
      try simp only [aput]
      refine tk (i := 7) (oi := { dst := some 13, op := Go.Op.call { callee := Go.Callee.builtin Go.Builtin.len, args := #[Go.Operand.tmp 12], argTypes := #[43] }, type := 3, pos := "machine.go:670", after := #[⟨6, .data⟩, ⟨4, .guard⟩], guard := some (4, true) }) (v := ?_) (Or.inl ⟨by rfl, ?_⟩) (by assumption) ?_
      rotate_left
      · intro w' hSw
        (try dsimp only at hSw)
        go_simp
        try with_reducible rfl
      try simp only [aput]
      refine tk (i := 8) (oi := ⟨some 14, .binOp .lss 3 (.tmp 11) (.tmp 13) 3, 4, "machine.go:670", #[⟨5, .data⟩, ⟨7, .data⟩, ⟨4, .guard⟩], some (4, true)⟩) (v := ?_) (Or.inl ⟨by rfl, ?_⟩) (by assumption) ?_
      rotate_left
      · intro w' hSw
        (try dsimp only at hSw)
        go_simp
        try with_reducible rfl
      try simp only [aput]
      refine tk (i := 9) (oi := ⟨some 15, .pick (.tmp 10) (.tmp 14) (.const (Go.Value.bool false)), 4, "machine.go:670", #[⟨4, .data⟩, ⟨8, .data⟩], none⟩) (v := ?_) (Or.inl ⟨by rfl, ?_⟩) (by assumption) ?_
      rotate_left
      · intro w' hSw
        (try dsimp only at hSw)
        go_simp
        try with_reducible rfl
      try simp only [aput]
      refine tk (i := 10) (oi := ⟨some 16, .move (.tmp 15), 4, "machine.go:670", #[⟨9, .data⟩, ⟨4, .chain⟩], none⟩) (v := ?_) (Or.inl ⟨by rfl, ?_⟩) (by assumption) ?_
      rotate_left
      · intro w' hSw
        (try dsimp only at hSw)
        go_simp
        try with_reducible rfl
      try simp only [aput]
      refine tk (i := 11) (oi := ⟨some 17, .move (.tmp 0), 43, "machine.go:670", #[⟨10, .guard⟩], some (10, true)⟩) (v := ?_) (Or.inl ⟨by rfl, ?_⟩) (by assumption) ?_
      rotate_left
      · intro w' hSw
        (try dsimp only at hSw)
        go_simp
        try with_reducible rfl
      try simp only [aput]
      refine tk (i := 12) (oi := ⟨some 18, .move (.tmp 5), 3, "machine.go:670", #[⟨10, .guard⟩], some (10, true)⟩) (v := ?_) (Or.inl ⟨by rfl, ?_⟩) (by assumption) ?_
      rotate_left
      · intro w' hSw
        (try dsimp only at hSw)
        go_simp
        try with_reducible rfl
      try simp only [aput]
      refine tk (i := 13) (oi := ⟨some 19, .indexAddr 43 (.tmp 17) (.tmp 18), 0, "machine.go:670", #[⟨11, .data⟩, ⟨12, .data⟩, ⟨10, .guard⟩], some (10, true)⟩) (v := ?_) (Or.inl ⟨by rfl, ?_⟩) (by assumption) ?_
      rotate_left
      · intro w' hSw
        (try dsimp only at hSw)
        go_simp
        try with_reducible rfl
      try simp only [aput]
      refine tk (i := 14) (oi := ⟨some 20, .load 71 (.tmp 19), 71, "machine.go:670", #[⟨13, .data⟩, ⟨10, .guard⟩], some (10, true)⟩) (v := ?_) (Or.inl ⟨by rfl, ?_⟩) (by assumption) ?_
      rotate_left
      · intro w' hSw
        (try dsimp only at hSw)
        go_simp
        try with_reducible rfl
      try simp only [aput]
      refine tk (i := 15) (oi := ⟨some 21, .move (.tmp 1), 43, "machine.go:670", #[⟨10, .guard⟩], some (10, true)⟩) (v := ?_) (Or.inl ⟨by rfl, ?_⟩) (by assumption) ?_
      rotate_left
      · intro w' hSw
        (try dsimp only at hSw)
        go_simp
        try with_reducible rfl
      try simp only [aput]
      refine tk (i := 16) (oi := ⟨some 22, .move (.tmp 5), 3, "machine.go:670", #[⟨10, .guard⟩], some (10, true)⟩) (v := ?_) (Or.inl ⟨by rfl, ?_⟩) (by assumption) ?_
      rotate_left
      · intro w' hSw
        (try dsimp only at hSw)
        go_simp
        try with_reducible rfl
      try simp only [aput]
      refine tk (i := 17) (oi := ⟨some 23, .indexAddr 43 (.tmp 21) (.tmp 22), 0, "machine.go:670", #[⟨15, .data⟩, ⟨16, .data⟩, ⟨10, .guard⟩], some (10, true)⟩) (v := ?_) (Or.inl ⟨by rfl, ?_⟩) (by assumption) ?_
      rotate_left
      · intro w' hSw
        (try dsimp only at hSw)
        go_simp
        try with_reducible rfl
      try simp only [aput]
      refine tk (i := 18) (oi := ⟨some 24, .load 71 (.tmp 23), 71, "machine.go:670", #[⟨17, .data⟩, ⟨10, .guard⟩], some (10, true)⟩) (v := ?_) (Or.inl ⟨by rfl, ?_⟩) (by assumption) ?_
      rotate_left
      · intro w' hSw
        (try dsimp only at hSw)
        go_simp
        try with_reducible rfl
      try simp only [aput]
      refine tk (i := 19) (oi := ⟨some 25, .binOp .eql 71 (.tmp 20) (.tmp 24) 71, 4, "machine.go:670", #[⟨14, .data⟩, ⟨18, .data⟩, ⟨10, .guard⟩], some (10, true)⟩) (v := ?_) (Or.inl ⟨by rfl, ?_⟩) (by assumption) ?_
      rotate_left
      · intro w' hSw
        (try dsimp only at hSw)
        go_simp
        try with_reducible rfl
      try simp only [aput]
      refine tk (i := 20) (oi := ⟨some 26, .pick (.tmp 16) (.tmp 25) (.const (Go.Value.bool false)), 4, "machine.go:670", #[⟨10, .data⟩, ⟨19, .data⟩], none⟩) (v := ?_) (Or.inl ⟨by rfl, ?_⟩) (by assumption) ?_
      rotate_left
      · intro w' hSw
        (try dsimp only at hSw)
        go_simp
        try with_reducible rfl
      try simp only [aput]
      refine wpAnyH_done (by kernel_rfl) ?_ _
      have hax := HEND.out (hj0)
      have HAX := hide hax
      clear hax HEND
      by_cases q1 : j = l.length
      · have qb1 : ((j : Int) == (l.length : Int)) = true := by simp [q1]
        by_cases q2 : j = m.length
        · have qb2 : ((j : Int) == (m.length : Int)) = true := by simp [q2]
          have HR := hide (HAX.out.trans (if_pos ⟨q1, q2⟩))
          clear HAX q1 q2
          go_wp2_with fail
          go_ret
          exact ⟨by rw [HR.out]; rfl, HB.out⟩
        · have qb2 : ((j : Int) == (m.length : Int)) = false := by simp; omega
          have HR := hide (HAX.out.trans (if_neg (fun h => q2 h.2)))
          clear HAX q1 q2
          go_wp2_with fail
          go_ret
          exact ⟨by rw [HR.out]; rfl, HB.out⟩
      · have qb1 : ((j : Int) == (l.length : Int)) = false := by simp; omega
        have HR := hide (HAX.out.trans (if_neg (fun h => q1 h.1)))
        clear HAX q1
        go_wp2_with fail
        go_ret
        exact ⟨by rw [HR.out]; rfl, HB.out⟩
    subst d3
    have HT := hide (HEQ.out rfl)
    clear HNE HEQ HEND
    go_wp2_with fail
    refine wp_region_held_drew (S := fun Wz => Wz.cell? ⟨lb, loff + j * 4, none⟩ = some (.int .i64 x0) ∧ Wz.cell? ⟨lb, loff + j * 4 + 1, none⟩ = some (.int .i64 x1) ∧ Wz.cell? ⟨lb, loff + j * 4 + 2, none⟩ = some (.int .i64 x2) ∧ Wz.cell? ⟨lb, loff + j * 4 + 3, none⟩ = some (.int .i64 x3) ∧ Wz.cell? ⟨mb, moff + j * 4, none⟩ = some (.int .i64 x0) ∧ Wz.cell? ⟨mb, moff + j * 4 + 1, none⟩ = some (.int .i64 x1) ∧ Wz.cell? ⟨mb, moff + j * 4 + 2, none⟩ = some (.int .i64 x2) ∧ Wz.cell? ⟨mb, moff + j * 4 + 3, none⟩ = some (.int .i64 x3)) (by kernel_rfl) (⟨q0, q1, q2, q3, s0, s1, s2, s3⟩) (fun hHeld => ?_)
    refine tk (i := 0) (oi := ⟨some 6, .move (.tmp 5), 3, "machine.go:670", #[], none⟩) (v := ?_) (Or.inl ⟨by rfl, ?_⟩) (by assumption) ?_
    rotate_left
    · intro w' hSw
      (try dsimp only at hSw)
      go_simp
      try with_reducible rfl
    try simp only [aput]
    refine tk (i := 1) (oi := ⟨some 7, .move (.tmp 0), 43, "machine.go:670", #[], none⟩) (v := ?_) (Or.inl ⟨by rfl, ?_⟩) (by assumption) ?_
    rotate_left
    · intro w' hSw
      (try dsimp only at hSw)
      go_simp
      try with_reducible rfl
    try simp only [aput]
    refine tk (i := 2) (oi := { dst := some 8, op := Go.Op.call { callee := Go.Callee.builtin Go.Builtin.len, args := #[Go.Operand.tmp 7], argTypes := #[43] }, type := 3, pos := "machine.go:670", after := #[⟨1, .data⟩], guard := none }) (v := ?_) (Or.inl ⟨by rfl, ?_⟩) (by assumption) ?_
    rotate_left
    · intro w' hSw
      (try dsimp only at hSw)
      go_simp
      try with_reducible rfl
    try simp only [aput]
    refine tk (i := 3) (oi := ⟨some 9, .binOp .lss 3 (.tmp 6) (.tmp 8) 3, 4, "machine.go:670", #[⟨0, .data⟩, ⟨2, .data⟩], none⟩) (v := ?_) (Or.inl ⟨by rfl, ?_⟩) (by assumption) ?_
    rotate_left
    · intro w' hSw
      (try dsimp only at hSw)
      go_simp
      try with_reducible rfl
    try simp only [aput]
    refine tk (i := 4) (oi := ⟨some 10, .move (.tmp 9), 4, "machine.go:670", #[⟨3, .data⟩], none⟩) (v := ?_) (Or.inl ⟨by rfl, ?_⟩) (by assumption) ?_
    rotate_left
    · intro w' hSw
      (try dsimp only at hSw)
      go_simp
      try with_reducible rfl
    try simp only [aput]
    refine tk (i := 5) (oi := ⟨some 11, .move (.tmp 5), 3, "machine.go:670", #[⟨4, .guard⟩], some (4, true)⟩) (v := ?_) (Or.inl ⟨by rfl, ?_⟩) (by assumption) ?_
    rotate_left
    · intro w' hSw
      (try dsimp only at hSw)
      go_simp
      try with_reducible rfl
    try simp only [aput]
    refine tk (i := 6) (oi := ⟨some 12, .move (.tmp 1), 43, "machine.go:670", #[⟨4, .guard⟩], some (4, true)⟩) (v := ?_) (Or.inl ⟨by rfl, ?_⟩) (by assumption) ?_
    rotate_left
    · intro w' hSw
      (try dsimp only at hSw)
      go_simp
      try with_reducible rfl
    try simp only [aput]
    refine tk (i := 7) (oi := { dst := some 13, op := Go.Op.call { callee := Go.Callee.builtin Go.Builtin.len, args := #[Go.Operand.tmp 12], argTypes := #[43] }, type := 3, pos := "machine.go:670", after := #[⟨6, .data⟩, ⟨4, .guard⟩], guard := some (4, true) }) (v := ?_) (Or.inl ⟨by rfl, ?_⟩) (by assumption) ?_
    rotate_left
    · intro w' hSw
      (try dsimp only at hSw)
      go_simp
      try with_reducible rfl
    try simp only [aput]
    refine tk (i := 8) (oi := ⟨some 14, .binOp .lss 3 (.tmp 11) (.tmp 13) 3, 4, "machine.go:670", #[⟨5, .data⟩, ⟨7, .data⟩, ⟨4, .guard⟩], some (4, true)⟩) (v := ?_) (Or.inl ⟨by rfl, ?_⟩) (by assumption) ?_
    rotate_left
    · intro w' hSw
      (try dsimp only at hSw)
      go_simp
      try with_reducible rfl
    try simp only [aput]
    refine tk (i := 9) (oi := ⟨some 15, .pick (.tmp 10) (.tmp 14) (.const (Go.Value.bool false)), 4, "machine.go:670", #[⟨4, .data⟩, ⟨8, .data⟩], none⟩) (v := ?_) (Or.inl ⟨by rfl, ?_⟩) (by assumption) ?_
    rotate_left
    · intro w' hSw
      (try dsimp only at hSw)
      go_simp
      try with_reducible rfl
    try simp only [aput]
    refine tk (i := 10) (oi := ⟨some 16, .move (.tmp 15), 4, "machine.go:670", #[⟨9, .data⟩, ⟨4, .chain⟩], none⟩) (v := ?_) (Or.inl ⟨by rfl, ?_⟩) (by assumption) ?_
    rotate_left
    · intro w' hSw
      (try dsimp only at hSw)
      go_simp
      try with_reducible rfl
    try simp only [aput]
    refine tk (i := 11) (oi := ⟨some 17, .move (.tmp 0), 43, "machine.go:670", #[⟨10, .guard⟩], some (10, true)⟩) (v := ?_) (Or.inl ⟨by rfl, ?_⟩) (by assumption) ?_
    rotate_left
    · intro w' hSw
      (try dsimp only at hSw)
      go_simp
      try with_reducible rfl
    try simp only [aput]
    refine tk (i := 12) (oi := ⟨some 18, .move (.tmp 5), 3, "machine.go:670", #[⟨10, .guard⟩], some (10, true)⟩) (v := ?_) (Or.inl ⟨by rfl, ?_⟩) (by assumption) ?_
    rotate_left
    · intro w' hSw
      (try dsimp only at hSw)
      go_simp
      try with_reducible rfl
    try simp only [aput]
    refine tk (i := 13) (oi := ⟨some 19, .indexAddr 43 (.tmp 17) (.tmp 18), 0, "machine.go:670", #[⟨11, .data⟩, ⟨12, .data⟩, ⟨10, .guard⟩], some (10, true)⟩) (v := ?_) (Or.inl ⟨by rfl, ?_⟩) (by assumption) ?_
    rotate_left
    · intro w' hSw
      (try dsimp only at hSw)
      go_simp
      try with_reducible rfl
    try simp only [aput]
    refine tk (i := 14) (oi := ⟨some 20, .load 71 (.tmp 19), 71, "machine.go:670", #[⟨13, .data⟩, ⟨10, .guard⟩], some (10, true)⟩) (v := ?_) (Or.inl ⟨by rfl, ?_⟩) (by assumption) ?_
    rotate_left
    · intro w' hSw
      (try dsimp only at hSw)
      go_simp
      try with_reducible rfl
    try simp only [aput]
    refine tk (i := 15) (oi := ⟨some 21, .move (.tmp 1), 43, "machine.go:670", #[⟨10, .guard⟩], some (10, true)⟩) (v := ?_) (Or.inl ⟨by rfl, ?_⟩) (by assumption) ?_
    rotate_left
    · intro w' hSw
      (try dsimp only at hSw)
      go_simp
      try with_reducible rfl
    try simp only [aput]
    refine tk (i := 16) (oi := ⟨some 22, .move (.tmp 5), 3, "machine.go:670", #[⟨10, .guard⟩], some (10, true)⟩) (v := ?_) (Or.inl ⟨by rfl, ?_⟩) (by assumption) ?_
    rotate_left
    · intro w' hSw
      (try dsimp only at hSw)
      go_simp
      try with_reducible rfl
    try simp only [aput]
    refine tk (i := 17) (oi := ⟨some 23, .indexAddr 43 (.tmp 21) (.tmp 22), 0, "machine.go:670", #[⟨15, .data⟩, ⟨16, .data⟩, ⟨10, .guard⟩], some (10, true)⟩) (v := ?_) (Or.inl ⟨by rfl, ?_⟩) (by assumption) ?_
    rotate_left
    · intro w' hSw
      (try dsimp only at hSw)
      go_simp
      try with_reducible rfl
    try simp only [aput]
    refine tk (i := 18) (oi := ⟨some 24, .load 71 (.tmp 23), 71, "machine.go:670", #[⟨17, .data⟩, ⟨10, .guard⟩], some (10, true)⟩) (v := ?_) (Or.inl ⟨by rfl, ?_⟩) (by assumption) ?_
    rotate_left
    · intro w' hSw
      (try dsimp only at hSw)
      go_simp
      try with_reducible rfl
    try simp only [aput]
    refine tk (i := 19) (oi := ⟨some 25, .binOp .eql 71 (.tmp 20) (.tmp 24) 71, 4, "machine.go:670", #[⟨14, .data⟩, ⟨18, .data⟩, ⟨10, .guard⟩], some (10, true)⟩) (v := ?_) (Or.inl ⟨by rfl, ?_⟩) (by assumption) ?_
    rotate_left
    · intro w' hSw
      (try dsimp only at hSw)
      go_simp
      try with_reducible rfl
    try simp only [aput]
    refine tk (i := 20) (oi := ⟨some 26, .pick (.tmp 16) (.tmp 25) (.const (Go.Value.bool false)), 4, "machine.go:670", #[⟨10, .data⟩, ⟨19, .data⟩], none⟩) (v := ?_) (Or.inl ⟨by rfl, ?_⟩) (by assumption) ?_
    rotate_left
    · intro w' hSw
      (try dsimp only at hSw)
      go_simp
      try with_reducible rfl
    try simp only [aput]
    refine wpAnyH_done (by kernel_rfl) ?_ _
    go_wp2_with fail
    exact ⟨⟨j + 1, by go_num, by omega, by omega, HT.out, HB.out⟩, by simp [intOf]; omega⟩
end Go.Proofs.Ytcbbjjenkommeaa.Ex

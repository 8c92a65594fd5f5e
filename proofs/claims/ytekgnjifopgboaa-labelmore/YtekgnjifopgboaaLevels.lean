/- veilworklaw.LabelLevels answers true, whatever it is handed: the walk. -/
import Derived.Test.YtekgnjifopgboaaLabB
namespace Go.Proofs.Ytekgnjifopgboaa
open Go.RowKit
set_option linter.unusedVariables false

/-- a level that lies in a box. -/
def Box (W : World) (b : Nat) (x y : Value) (L : Lev) : Prop := W.cell? ⟨b, 0, none⟩ = some x ∧ W.cell? ⟨b, 1, none⟩ = some y ∧ LevAt W (.agg #[x, y]) L

theorem Box.over {W W' : World} {b : Nat} {x y : Value} {L : Lev} (h : Box W b x y L) (hb : Below W.heap.size W W') : Box W' b x y L := by
  obtain ⟨h0, h1, h2⟩ := h
  exact ⟨by rw [(bcell hb).1 _ _ (World.block_lt_of_cell? W _ h0)]; exact h0, by rw [(bcell hb).1 _ _ (World.block_lt_of_cell? W _ h1)]; exact h1, levAt_over h2 hb⟩

theorem box_new {W : World} {x y : Value} {L : Lev} (h : LevAt W (.agg #[x, y]) L) : Box (W.alloc (.cells #[x, y] 30)) W.heap.size x y L :=
  ⟨by simp [go_sem], by simp [go_sem], levAt_over h ((Below.refl _ W).alloc (Nat.le_refl _) _)⟩

theorem box_stored {w W : World} {p : Nat} {x y a b : Value} {L : Lev} (h : LevFresh w W (.agg #[a, b]) L) (hp : W.heap[p]? = some (.cells #[x, y] 30 (0, 0))) : Box ((W.setCell ⟨p, 0, none⟩ a).setCell ⟨p, 1, none⟩ b) p a b L := by
  obtain ⟨h0, h1, -, -⟩ := cells_of_pair (box_set (a := a) (b := b) hp)
  exact ⟨h0, h1, lev_set h hp⟩

theorem sameLev_self (l : Lev) : sameLev l l = true := by simp [sameLev]
theorem levelIs_self (l m : Lev) (e : Int) (h : l = if e = 0 then m else noLev) : levelIsB l e e m = true := by
  unfold levelIsB
  rw [← h]
  simp [sameLev_self]
theorem noLev_small : noLev.small := by unfold Lev.small noLev; decide
theorem levOf_small (gn : List (Nat × Nat)) (n : Nat) (hn : n ≤ 6) (bl : Lab) : (levOf gn n bl).small := by
  unfold Lev.small levOf
  simp only [rowOf_length]
  omega
theorem levOf_len (gn : List (Nat × Nat)) (n : Nat) (bl : Lab) : (levOf gn n bl).r.length = n ∧ (levOf gn n bl).w.length = n := ⟨rowOf_length _ _, rowOf_length _ _⟩

set_option maxRecDepth 100000 in
set_option maxHeartbeats 4000000 in
theorem levels_bad (m : Int) (v : Value) (gs : List (Int × Int)) (pr pw : Value) (bl : Lab) (w : World) (hv : IsGrants w v gs) (hp : IsPols w pr bl.r) (hq : IsPols w pw bl.w) (hE : chkErr m gs ≠ 0) :
    Calls Try.prog 3 #[.agg #[.int .i64 m, v], .agg #[pr, pw]] w fun e w' => e = .returned (.bool true) ∧ Below w.heap.size w w' := by
  have hKL := fun (W : World) (hW : Below w.heap.size w W) => levelOk m v gs pr pw bl W (isGrants_over hv hW) (isPols_over hp hW) (isPols_over hq hW)
  have hKC := fun (W : World) (hW : Below w.heap.size w W) => checkOk m v gs pr pw bl W (isGrants_over hv hW) (isPols_over hp hW) (isPols_over hq hW)
  have hKR := fun (W : World) (hW : Below w.heap.size w W) => refCheck_any m v gs W (isGrants_over hv hW)
  have hX : lChk m gs bl = chkErr m gs := by unfold lChk; rw [if_neg hE]
  rw [hX, if_neg hE] at hKL
  rw [hX] at hKC
  obtain ⟨r, hr⟩ : ∃ r, r = chkErr m gs := ⟨_, rfl⟩
  rw [← hr] at hE hKL hKC hKR
  have b2 : (r == 0) = false := by simpa using hE
  have HFIN := hide (levelIs_self noLev noLev r (by simp))
  have HSM := hide noLev_small
  clear hr hX
  have KI := hide fun (vl vm : Value) (W : World) (hl : LevAt W vl (noLev)) (hm : LevAt W vm (noLev)) => levelIs_any vl vm (noLev) (noLev) r r W hl hm HSM.out
  have KL := hide hKL
  have KC := hide hKC
  have KR := hide hKR
  have hs0 : Hid (((w.alloc (.cells #[.int .i64 m, v] 24)).alloc (.cells #[pr, pw] 27)).cell? ⟨w.heap.size, 0, none⟩ = some (.int .i64 m) ∧ ((w.alloc (.cells #[.int .i64 m, v] 24)).alloc (.cells #[pr, pw] 27)).cell? ⟨w.heap.size, 1, none⟩ = some v ∧ ((w.alloc (.cells #[.int .i64 m, v] 24)).alloc (.cells #[pr, pw] 27)).cell? ⟨w.heap.size + 1, 0, none⟩ = some pr ∧ ((w.alloc (.cells #[.int .i64 m, v] 24)).alloc (.cells #[pr, pw] 27)).cell? ⟨w.heap.size + 1, 1, none⟩ = some pw ∧ Below w.heap.size w ((w.alloc (.cells #[.int .i64 m, v] 24)).alloc (.cells #[pr, pw] 27))) := ⟨by simp [go_sem], by simp [go_sem], by simp [go_sem], by simp [go_sem], ((Below.refl _ w).alloc (Nat.le_refl _) _).alloc (by simp) _⟩
  obtain ⟨va, vn, vc, rfl⟩ := grants_form hv
  obtain ⟨pa, pn, pc, rfl⟩ := pols_form hp
  obtain ⟨qa, qn, qc, rfl⟩ := pols_form hq
  clear hKL hKC hKR hv hp hq
  go_enter Try.func3, Try.ntmps3
  go_wp2_with fail
  refine (KL.out _ hs0.out.2.2.2.2).mono ?_
  rintro e w1 ⟨vl, rfl, hlf, hb1⟩
  have hs1 := hide (held4 hs0.out hb1)
  have hla := levFresh_at hlf
  obtain ⟨xa, xc, xb, xd, rfl⟩ := lev_form hla
  have hx1 := hide (box_new hla)
  have hal := (Below.refl _ w1).alloc (Nat.le_refl _) (.cells #[.slice xa (noLev).r.length xc, .slice xb (noLev).w.length xd] 30)
  have hs2 := hide (held4 hs1.out hal)
  have hB2 := hs2.out.2.2.2.2
  obtain ⟨c0, c1, c2, c3, -⟩ := hs2.out
  clear hs0 hs1 hlf hla hb1 hal KL
  go_wp2_with fail
  refine (KR.out _ hB2).mono ?_
  rintro e w3 ⟨rfl, hb3⟩
  have hs3 := hide (held4 hs2.out hb3)
  have hx3 := hide (hx1.out.over hb3)
  clear hs2 hx1 hb3 c0 c1 c2 c3 hB2 KR
  go_wp2_with fail
  have hal := (Below.refl _ w3).alloc (Nat.le_refl _) (.cells #[.slice none 0 0, .slice none 0 0] 30)
  have hs3a := hide (held4 hs3.out hal)
  have hx3a := hide (hx3.out.over hal)
  have hy3a := hide (box_new (noLev_at w3))
  clear hs3 hx3 hal
  refine (begun_any _).mono ?_
  rintro e w7 ⟨rfl, hb7⟩
  have hs7 := hide (held4 hs3a.out hb7)
  have hx7 := hide (hx3a.out.over hb7)
  have hy7 := hide (hy3a.out.over hb7)
  have hB7 := hs7.out.2.2.2.2
  obtain ⟨c0, c1, c2, c3, -⟩ := hs7.out
  clear hs3a hx3a hy3a hb7
  go_wp2_with fail
  refine (KC.out _ hB7).mono ?_
  rintro e w8 ⟨rfl, hb8⟩
  have hs8 := hide (held4 hs7.out hb8)
  have hx8 := hide (hx7.out.over hb8)
  have hy8 := hide (hy7.out.over hb8)
  have hB8 := hs8.out.2.2.2.2
  obtain ⟨x0, x1, -⟩ := hx8.out
  obtain ⟨y0, y1, -⟩ := hy8.out
  have bb : (r == r) = true := by simp
  clear hs7 hx7 hy7 hb8 c0 c1 c2 c3 hB7 KC hs8
  go_wp2_with fail
  refine (KI.out _ _ _ hx8.out.2.2 hy8.out.2.2).mono ?_
  rintro e w9 ⟨rfl, hb9⟩
  have hB9 := hB8.trans (hb9.mono hB8.size)
  clear x0 x1 y0 y1 hx8 hy8 hb9 KI
  go_wp2_with fail
  go_ret
  exact ⟨by rw [HFIN.out]; rfl, hB9⟩

set_option maxRecDepth 100000 in
set_option maxHeartbeats 4000000 in
theorem levels_lab (m : Int) (v : Value) (gs : List (Int × Int)) (pr pw : Value) (bl : Lab) (w : World) (hv : IsGrants w v gs) (hp : IsPols w pr bl.r) (hq : IsPols w pw bl.w) (hE : chkErr m gs = 0) (hL : labErr m bl ≠ 0) :
    Calls Try.prog 3 #[.agg #[.int .i64 m, v], .agg #[pr, pw]] w fun e w' => e = .returned (.bool true) ∧ Below w.heap.size w w' := by
  have hKL := fun (W : World) (hW : Below w.heap.size w W) => levelOk m v gs pr pw bl W (isGrants_over hv hW) (isPols_over hp hW) (isPols_over hq hW)
  have hKC := fun (W : World) (hW : Below w.heap.size w W) => checkOk m v gs pr pw bl W (isGrants_over hv hW) (isPols_over hp hW) (isPols_over hq hW)
  have hKR := fun (W : World) (hW : Below w.heap.size w W) => refCheck_any m v gs W (isGrants_over hv hW)
  have hX : lChk m gs bl = labErr m bl := by unfold lChk; rw [if_pos hE]
  have hm : 1 ≤ m ∧ m ≤ 6 := by obtain ⟨n, hm, h1, h2, _⟩ := chk_ok hE; omega
  have hKK := fun (W : World) (hW : Below w.heap.size w W) => checkLabel_any m hm v pr pw bl W (isPols_over hp hW) (isPols_over hq hW)
  rw [hX, if_neg hL] at hKL
  rw [hX] at hKC
  rw [hE] at hKR
  obtain ⟨r, hr⟩ : ∃ r, r = labErr m bl := ⟨_, rfl⟩
  rw [← hr] at hL hKL hKC hKK
  have b2 : (r == 0) = false := by simpa using hL
  have HFIN := hide (levelIs_self noLev noLev r (by simp))
  have HSM := hide noLev_small
  have KK := hide hKK
  clear hr hX hKK hE
  have KI := hide fun (vl vm : Value) (W : World) (hl : LevAt W vl (noLev)) (hm : LevAt W vm (noLev)) => levelIs_any vl vm (noLev) (noLev) r r W hl hm HSM.out
  have KL := hide hKL
  have KC := hide hKC
  have KR := hide hKR
  have hs0 : Hid (((w.alloc (.cells #[.int .i64 m, v] 24)).alloc (.cells #[pr, pw] 27)).cell? ⟨w.heap.size, 0, none⟩ = some (.int .i64 m) ∧ ((w.alloc (.cells #[.int .i64 m, v] 24)).alloc (.cells #[pr, pw] 27)).cell? ⟨w.heap.size, 1, none⟩ = some v ∧ ((w.alloc (.cells #[.int .i64 m, v] 24)).alloc (.cells #[pr, pw] 27)).cell? ⟨w.heap.size + 1, 0, none⟩ = some pr ∧ ((w.alloc (.cells #[.int .i64 m, v] 24)).alloc (.cells #[pr, pw] 27)).cell? ⟨w.heap.size + 1, 1, none⟩ = some pw ∧ Below w.heap.size w ((w.alloc (.cells #[.int .i64 m, v] 24)).alloc (.cells #[pr, pw] 27))) := ⟨by simp [go_sem], by simp [go_sem], by simp [go_sem], by simp [go_sem], ((Below.refl _ w).alloc (Nat.le_refl _) _).alloc (by simp) _⟩
  obtain ⟨va, vn, vc, rfl⟩ := grants_form hv
  obtain ⟨pa, pn, pc, rfl⟩ := pols_form hp
  obtain ⟨qa, qn, qc, rfl⟩ := pols_form hq
  clear hKL hKC hKR hv hp hq
  go_enter Try.func3, Try.ntmps3
  go_wp2_with fail
  refine (KL.out _ hs0.out.2.2.2.2).mono ?_
  rintro e w1 ⟨vl, rfl, hlf, hb1⟩
  have hs1 := hide (held4 hs0.out hb1)
  have hla := levFresh_at hlf
  obtain ⟨xa, xc, xb, xd, rfl⟩ := lev_form hla
  have hx1 := hide (box_new hla)
  have hal := (Below.refl _ w1).alloc (Nat.le_refl _) (.cells #[.slice xa (noLev).r.length xc, .slice xb (noLev).w.length xd] 30)
  have hs2 := hide (held4 hs1.out hal)
  have hB2 := hs2.out.2.2.2.2
  obtain ⟨c0, c1, c2, c3, -⟩ := hs2.out
  clear hs0 hs1 hlf hla hb1 hal KL
  go_wp2_with fail
  refine (KR.out _ hB2).mono ?_
  rintro e w3 ⟨rfl, hb3⟩
  have hs3 := hide (held4 hs2.out hb3)
  have hx3 := hide (hx1.out.over hb3)
  clear hs2 hx1 hb3 c0 c1 c2 c3 hB2 KR
  have hB3 := hs3.out.2.2.2.2
  obtain ⟨c0, c1, c2, c3, -⟩ := hs3.out
  go_wp2_with fail
  refine (KK.out _ hB3).mono ?_
  rintro e w4 ⟨rfl, hb4⟩
  have hs4 := hide (held4 hs3.out hb4)
  have hx4 := hide (hx3.out.over hb4)
  clear hs3 hx3 hb4 c0 c1 c2 c3 hB3 KK
  go_wp2_with fail
  have hal := (Below.refl _ w4).alloc (Nat.le_refl _) (.cells #[.slice none 0 0, .slice none 0 0] 30)
  have hs4a := hide (held4 hs4.out hal)
  have hx4a := hide (hx4.out.over hal)
  have hy4a := hide (box_new (noLev_at w4))
  clear hs4 hx4 hal
  refine (begun_any _).mono ?_
  rintro e w7 ⟨rfl, hb7⟩
  have hs7 := hide (held4 hs4a.out hb7)
  have hx7 := hide (hx4a.out.over hb7)
  have hy7 := hide (hy4a.out.over hb7)
  have hB7 := hs7.out.2.2.2.2
  obtain ⟨c0, c1, c2, c3, -⟩ := hs7.out
  clear hs4a hx4a hy4a hb7
  go_wp2_with fail
  refine (KC.out _ hB7).mono ?_
  rintro e w8 ⟨rfl, hb8⟩
  have hs8 := hide (held4 hs7.out hb8)
  have hx8 := hide (hx7.out.over hb8)
  have hy8 := hide (hy7.out.over hb8)
  have hB8 := hs8.out.2.2.2.2
  obtain ⟨x0, x1, -⟩ := hx8.out
  obtain ⟨y0, y1, -⟩ := hy8.out
  have bb : (r == r) = true := by simp
  clear hs7 hx7 hy7 hb8 c0 c1 c2 c3 hB7 KC hs8
  go_wp2_with fail
  refine (KI.out _ _ _ hx8.out.2.2 hy8.out.2.2).mono ?_
  rintro e w9 ⟨rfl, hb9⟩
  have hB9 := hB8.trans (hb9.mono hB8.size)
  clear x0 x1 y0 y1 hx8 hy8 hb9 KI
  go_wp2_with fail
  go_ret
  exact ⟨by rw [HFIN.out]; rfl, hB9⟩

set_option maxRecDepth 100000 in
set_option maxHeartbeats 4000000 in
theorem levels_ok (m : Int) (v : Value) (gs : List (Int × Int)) (pr pw : Value) (bl : Lab) (w : World) (hv : IsGrants w v gs) (hp : IsPols w pr bl.r) (hq : IsPols w pw bl.w) (hE : chkErr m gs = 0) (hL : labErr m bl = 0) :
    Calls Try.prog 3 #[.agg #[.int .i64 m, v], .agg #[pr, pw]] w fun e w' => e = .returned (.bool true) ∧ Below w.heap.size w w' := by
  have hKL := fun (W : World) (hW : Below w.heap.size w W) => levelOk m v gs pr pw bl W (isGrants_over hv hW) (isPols_over hp hW) (isPols_over hq hW)
  have hKC := fun (W : World) (hW : Below w.heap.size w W) => checkOk m v gs pr pw bl W (isGrants_over hv hW) (isPols_over hp hW) (isPols_over hq hW)
  have hKR := fun (W : World) (hW : Below w.heap.size w W) => refCheck_any m v gs W (isGrants_over hv hW)
  have hX : lChk m gs bl = 0 := by unfold lChk; rw [if_pos hE]; exact hL
  have hm : 1 ≤ m ∧ m ≤ 6 := by obtain ⟨n, hm, h1, h2, _⟩ := chk_ok hE; omega
  have hKK := fun (W : World) (hW : Below w.heap.size w W) => checkLabel_any m hm v pr pw bl W (isPols_over hp hW) (isPols_over hq hW)
  rw [hX, if_pos rfl] at hKL
  rw [hX] at hKC
  rw [hE] at hKR
  rw [hL] at hKK
  obtain ⟨n, rfl, h1, h6, hgs, hlen, hgb, hin, _⟩ := lChk_ok hX
  simp only [Int.toNat_natCast] at hKL
  have hKO := fun (W : World) (hW : Below w.heap.size w W) => levelOf_any n h1 h6 v pr pw (gnOf gs) bl W (by rw [hgs]; exact isGrants_over hv hW) hlen hgb (isPols_over hp hW) (isPols_over hq hW) hin
  obtain ⟨r, hr⟩ : ∃ r : Int, r = 0 := ⟨_, rfl⟩
  have HFIN := hide (levelIs_self (levOf (gnOf gs) n bl) (levOf (gnOf gs) n bl) r (by rw [hr]; simp))
  have HSM := hide (levOf_small (gnOf gs) n h6 bl)
  have HLN := hide (levOf_len (gnOf gs) n bl)
  have KK := hide hKK
  have KO := hide hKO
  subst hr
  clear hX hKK hE hL hKO hgs hlen hgb hin hm
  have KI := hide fun (vl vm : Value) (W : World) (hl : LevAt W vl (levOf (gnOf gs) n bl)) (hm : LevAt W vm (levOf (gnOf gs) n bl)) => levelIs_any vl vm (levOf (gnOf gs) n bl) (levOf (gnOf gs) n bl) 0 0 W hl hm HSM.out
  have KL := hide hKL
  have KC := hide hKC
  have KR := hide hKR
  have hs0 : Hid (((w.alloc (.cells #[.int .i64 n, v] 24)).alloc (.cells #[pr, pw] 27)).cell? ⟨w.heap.size, 0, none⟩ = some (.int .i64 n) ∧ ((w.alloc (.cells #[.int .i64 n, v] 24)).alloc (.cells #[pr, pw] 27)).cell? ⟨w.heap.size, 1, none⟩ = some v ∧ ((w.alloc (.cells #[.int .i64 n, v] 24)).alloc (.cells #[pr, pw] 27)).cell? ⟨w.heap.size + 1, 0, none⟩ = some pr ∧ ((w.alloc (.cells #[.int .i64 n, v] 24)).alloc (.cells #[pr, pw] 27)).cell? ⟨w.heap.size + 1, 1, none⟩ = some pw ∧ Below w.heap.size w ((w.alloc (.cells #[.int .i64 n, v] 24)).alloc (.cells #[pr, pw] 27))) := ⟨by simp [go_sem], by simp [go_sem], by simp [go_sem], by simp [go_sem], ((Below.refl _ w).alloc (Nat.le_refl _) _).alloc (by simp) _⟩
  obtain ⟨va, vn, vc, rfl⟩ := grants_form hv
  obtain ⟨pa, pn, pc, rfl⟩ := pols_form hp
  obtain ⟨qa, qn, qc, rfl⟩ := pols_form hq
  clear hKL hKC hKR hv hp hq
  go_enter Try.func3, Try.ntmps3
  go_wp2_with fail
  refine (KL.out _ hs0.out.2.2.2.2).mono ?_
  rintro e w1 ⟨vl, rfl, hlf, hb1⟩
  have hs1 := hide (held4 hs0.out hb1)
  have hla := levFresh_at hlf
  obtain ⟨xa, xc, xb, xd, rfl⟩ := lev_form hla
  have hx1 := hide (box_new hla)
  have hal := (Below.refl _ w1).alloc (Nat.le_refl _) (.cells #[.slice xa (levOf (gnOf gs) n bl).r.length xc, .slice xb (levOf (gnOf gs) n bl).w.length xd] 30)
  have hs2 := hide (held4 hs1.out hal)
  have hB2 := hs2.out.2.2.2.2
  obtain ⟨c0, c1, c2, c3, -⟩ := hs2.out
  clear hs0 hs1 hlf hla hb1 hal KL
  go_wp2_with fail
  refine (KR.out _ hB2).mono ?_
  rintro e w3 ⟨rfl, hb3⟩
  have hs3 := hide (held4 hs2.out hb3)
  have hx3 := hide (hx1.out.over hb3)
  clear hs2 hx1 hb3 c0 c1 c2 c3 hB2 KR
  have hB3 := hs3.out.2.2.2.2
  obtain ⟨c0, c1, c2, c3, -⟩ := hs3.out
  go_wp2_with fail
  refine (KK.out _ hB3).mono ?_
  rintro e w4 ⟨rfl, hb4⟩
  have hs4 := hide (held4 hs3.out hb4)
  have hx4 := hide (hx3.out.over hb4)
  clear hs3 hx3 hb4 c0 c1 c2 c3 hB3 KK
  have hal := (Below.refl _ w4).alloc (Nat.le_refl _) (.cells #[.slice none 0 0, .slice none 0 0] 30)
  have hs4a := hide (held4 hs4.out hal)
  have hB4 := hs4a.out.2.2.2.2
  obtain ⟨c0, c1, c2, c3, -⟩ := hs4a.out
  go_wp2_with fail
  refine (KO.out _ hB4).mono ?_
  rintro e w5 ⟨vr, vw, rfl, ho1, ho2, hap, hb5⟩
  have hh5 := box_over (heap_of_alloc w4 _) hb5
  obtain ⟨z0, z1, z2, z3⟩ := cells_of_pair hh5
  have hfr : LevFresh (w4.alloc (.cells #[.slice none 0 0, .slice none 0 0] 30)) w5 (.agg #[vr, vw]) (levOf (gnOf gs) n bl) := ⟨vr, vw, rfl, by rw [HLN.out.1]; exact ho1, by rw [HLN.out.2]; exact ho2, hap⟩
  obtain ⟨g1, q1, rfl⟩ := ownB_some ho1 h1
  obtain ⟨g2, q2, rfl⟩ := ownB_some ho2 h1
  have hy5 := hide (box_stored hfr hh5)
  have hb45 := ((hal.trans (hb5.mono (by simp))).setCell (p := ⟨w4.heap.size, 0, none⟩) (Nat.le_refl _) (.slice (some ⟨g1, 0, none⟩) n q1)).setCell (p := ⟨w4.heap.size, 1, none⟩) (Nat.le_refl _) (.slice (some ⟨g2, 0, none⟩) n q2)
  have hs5 := hide (held4 hs4.out hb45)
  have hx5 := hide (hx4.out.over hb45)
  clear hs4 hx4 hs4a hal hfr ho1 ho2 hb5 hb45 c0 c1 c2 c3 hB4 KO hh5
  go_wp2_with fail
  clear z0 z1 z2 z3
  refine (begun_any _).mono ?_
  rintro e w7 ⟨rfl, hb7⟩
  have hs7 := hide (held4 hs5.out hb7)
  have hx7 := hide (hx5.out.over hb7)
  have hy7 := hide (hy5.out.over hb7)
  have hB7 := hs7.out.2.2.2.2
  obtain ⟨c0, c1, c2, c3, -⟩ := hs7.out
  clear hs5 hx5 hy5 hb7
  go_wp2_with fail
  refine (KC.out _ hB7).mono ?_
  rintro e w8 ⟨rfl, hb8⟩
  have hs8 := hide (held4 hs7.out hb8)
  have hx8 := hide (hx7.out.over hb8)
  have hy8 := hide (hy7.out.over hb8)
  have hB8 := hs8.out.2.2.2.2
  obtain ⟨x0, x1, -⟩ := hx8.out
  obtain ⟨y0, y1, -⟩ := hy8.out
  clear hs7 hx7 hy7 hb8 c0 c1 c2 c3 hB7 KC hs8
  go_wp2_with fail
  refine (KI.out _ _ _ hx8.out.2.2 hy8.out.2.2).mono ?_
  rintro e w9 ⟨rfl, hb9⟩
  have hB9 := hB8.trans (hb9.mono hB8.size)
  clear x0 x1 y0 y1 hx8 hy8 hb9 KI
  go_wp2_with fail
  go_ret
  exact ⟨by rw [HFIN.out]; rfl, hB9⟩

theorem levels_any (m : Int) (v : Value) (gs : List (Int × Int)) (pr pw : Value) (bl : Lab) (w : World) (hv : IsGrants w v gs) (hp : IsPols w pr bl.r) (hq : IsPols w pw bl.w) :
    Calls Try.prog 3 #[.agg #[.int .i64 m, v], .agg #[pr, pw]] w fun e w' => e = .returned (.bool true) ∧ Below w.heap.size w w' := by
  by_cases hE : chkErr m gs = 0
  · by_cases hL : labErr m bl = 0
    · exact levels_ok m v gs pr pw bl w hv hp hq hE hL
    · exact levels_lab m v gs pr pw bl w hv hp hq hE hL
  · exact levels_bad m v gs pr pw bl w hv hp hq hE
end Go.Proofs.Ytekgnjifopgboaa

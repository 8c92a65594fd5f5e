/- Plain: levels are ordered; what both flow to the join flows to, what flows to both flows to the meet. And the law's own way to ask. -/
import Derived.Test.YtekgnjifopgboaaJoinsA
namespace Go.Proofs.Ytekgnjifopgboaa
open Go.RowKit
set_option linter.unusedVariables false

theorem rowOf_get (f : Nat → Bool) {n i : Nat} (h : i < n) : (rowOf f n)[i]?.getD false = f i := by simp [rowOf, h]

theorem flows_refl (l : Lev) (n : Nat) : flowsB l l n = true := flowsB_iff.2 fun _ _ => ⟨id, id⟩
theorem flows_trans {l k q : Lev} {n : Nat} (h : flowsB l k n = true) (h2 : flowsB k q n = true) : flowsB l q n = true :=
  flowsB_iff.2 fun i hi => ⟨fun h3 => (flowsB_iff.1 h i hi).1 ((flowsB_iff.1 h2 i hi).1 h3), fun h3 => (flowsB_iff.1 h2 i hi).2 ((flowsB_iff.1 h i hi).2 h3)⟩
theorem list_of_get {a b : List Bool} {n : Nat} (ha : a.length = n) (hb : b.length = n) (h : ∀ i, i < n → a[i]?.getD false = b[i]?.getD false) : a = b := by
  apply List.ext_getElem (by omega)
  intro i h1 h2
  have := h i (by omega)
  simpa [h1, h2] using this
theorem flows_anti {l k : Lev} {n : Nat} (hl : l.len n) (hk : k.len n) (h : flowsB l k n = true) (h2 : flowsB k l n = true) : sameLev l k = true := by
  have e1 : l.r = k.r := list_of_get hl.1 hk.1 fun i hi => by
    have a := (flowsB_iff.1 h i hi).1
    have b := (flowsB_iff.1 h2 i hi).1
    revert a b
    cases l.r[i]?.getD false <;> cases k.r[i]?.getD false <;> simp
  have e2 : l.w = k.w := list_of_get hl.2 hk.2 fun i hi => by
    have a := (flowsB_iff.1 h i hi).2
    have b := (flowsB_iff.1 h2 i hi).2
    revert a b
    cases l.w[i]?.getD false <;> cases k.w[i]?.getD false <;> simp
  simp [sameLev, e1, e2]
theorem join_lub (l k q : Lev) (n : Nat) : flowsB (joinL l k n) q n = (flowsB l q n && flowsB k q n) := by
  rw [Bool.eq_iff_iff, Bool.and_eq_true, flowsB_iff, flowsB_iff, flowsB_iff]
  constructor
  · intro h
    refine ⟨fun i hi => ?_, fun i hi => ?_⟩
    all_goals
      have := h i hi
      simp only [joinL, rowOf_get _ hi, andAt, orAt] at this
      revert this
      cases l.r[i]?.getD false <;> cases k.r[i]?.getD false <;> cases l.w[i]?.getD false <;> cases k.w[i]?.getD false <;> cases q.r[i]?.getD false <;> cases q.w[i]?.getD false <;> simp
  · rintro ⟨h, h2⟩ i hi
    have a := h i hi
    have b := h2 i hi
    simp only [joinL, rowOf_get _ hi, andAt, orAt]
    revert a b
    cases l.r[i]?.getD false <;> cases k.r[i]?.getD false <;> cases l.w[i]?.getD false <;> cases k.w[i]?.getD false <;> cases q.r[i]?.getD false <;> cases q.w[i]?.getD false <;> simp
theorem meet_glb (l k q : Lev) (n : Nat) : flowsB q (meetL l k n) n = (flowsB q l n && flowsB q k n) := by
  rw [Bool.eq_iff_iff, Bool.and_eq_true, flowsB_iff, flowsB_iff, flowsB_iff]
  constructor
  · intro h
    refine ⟨fun i hi => ?_, fun i hi => ?_⟩
    all_goals
      have := h i hi
      simp only [meetL, rowOf_get _ hi, andAt, orAt] at this
      revert this
      cases l.r[i]?.getD false <;> cases k.r[i]?.getD false <;> cases l.w[i]?.getD false <;> cases k.w[i]?.getD false <;> cases q.r[i]?.getD false <;> cases q.w[i]?.getD false <;> simp
  · rintro ⟨h, h2⟩ i hi
    have a := h i hi
    have b := h2 i hi
    simp only [meetL, rowOf_get _ hi, andAt, orAt]
    revert a b
    cases l.r[i]?.getD false <;> cases k.r[i]?.getD false <;> cases l.w[i]?.getD false <;> cases k.w[i]?.getD false <;> cases q.r[i]?.getD false <;> cases q.w[i]?.getD false <;> simp
theorem join_up (l k : Lev) (n : Nat) : flowsB l (joinL l k n) n = true ∧ flowsB k (joinL l k n) n = true := by
  have := flows_refl (joinL l k n) n
  rw [join_lub, Bool.and_eq_true] at this
  exact this
theorem meet_down (l k : Lev) (n : Nat) : flowsB (meetL l k n) l n = true ∧ flowsB (meetL l k n) k n = true := by
  have := flows_refl (meetL l k n) n
  rw [meet_glb, Bool.and_eq_true] at this
  exact this

theorem levErr_len {n : Nat} {l : Lev} (h : l.len n) : levErr n l = 0 := by
  unfold levErr
  rw [if_pos ⟨by rw [h.1], by rw [h.2]⟩]
theorem joinL_isLen (l k : Lev) (n : Nat) : (joinL l k n).len n ∧ (meetL l k n).len n := ⟨⟨rowOf_length _ _, rowOf_length _ _⟩, ⟨rowOf_length _ _, rowOf_length _ _⟩⟩

theorem call23 (args : Array Value) (w : World) : (callFunc 23 args).run Try.prog w = .ok (.enter 23 args) w := by simp [go_sem]
set_option maxHeartbeats 1000000 in
theorem ask_any (nb n : Nat) (v : Value) (gs : List (Int × Int)) (vx vy : Value) (x y : Lev) (w : World) (h0 : w.cell? ⟨nb, 0, none⟩ = some (.int .i64 n)) (h1 : w.cell? ⟨nb, 1, none⟩ = some v) (hv : IsGrants w v gs) (hx : LevAt w vx x) (hy : LevAt w vy y) (hE : chkErr n gs = 0) (lx : x.len n) (ly : y.len n) :
    Calls Try.prog 23 #[vx, vy, .pointer (some ⟨nb, 0, none⟩)] w fun e w' => e = .returned (.bool (flowsB x y n)) ∧ Below w.heap.size w w' := by
  have hF := fun (W : World) (hW : Below w.heap.size w W) => flowsOk n v gs vx vy x y W (isGrants_over hv hW) (levAt_over hx hW) (levAt_over hy hW)
  have hX : lTwo n gs x y = 0 := by rw [(lTwo_k (k := y) hE (levErr_len lx)).1]; exact levErr_len ly
  rw [hX, decide_eq_true rfl, Bool.true_and] at hF
  simp only [Int.toNat_natCast] at hF
  obtain ⟨a1, k1, a2, k2, rfl⟩ := lev_form hx
  obtain ⟨a3, k3, a4, k4, rfl⟩ := lev_form hy
  obtain ⟨va, vn, vc, rfl⟩ := grants_form hv
  obtain ⟨r, hr⟩ : ∃ r, r = flowsB x y n := ⟨_, rfl⟩
  rw [← hr] at hF ⊢
  have KF := hide hF
  have hbel : Below w.heap.size w ((w.alloc (.cells #[.slice a1 x.r.length k1, .slice a2 x.w.length k2] 30)).alloc (.cells #[.slice a3 y.r.length k3, .slice a4 y.w.length k4] 30)) := ((Below.refl _ w).alloc (Nat.le_refl _) _).alloc (by simp) _
  have ltb := World.block_lt_of_cell? w _ h0
  clear hF hr hX hx hy hv lx ly hE
  cases r
  all_goals
    go_enter Try.func23, Try.ntmps23
    go_wp2_with fail
    refine (KF.out _ hbel).mono ?_
    rintro e w1 ⟨rfl, hb1⟩
    have hB1 := hbel.trans (hb1.mono (by simp; omega))
    clear hb1 KF
    go_wp2_with fail
    go_ret
    exact ⟨by simp, hB1⟩
end Go.Proofs.Ytekgnjifopgboaa

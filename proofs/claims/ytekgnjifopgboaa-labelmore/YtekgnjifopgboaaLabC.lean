/- Package label: Check and Level keep their contracts. -/
import Derived.Test.YtekgnjifopgboaaLabP
import Derived.Test.YtekgnjifopgboaaLabK
namespace Go.Proofs.Ytekgnjifopgboaa
open Go.RowKit
set_option linter.unusedVariables false

theorem pols_form {w : World} {v : Value} {ps : List Pol} (h : IsPols w v ps) : ∃ a n c, v = .slice a n c := by
  obtain ⟨a, c, e, _⟩ := h
  exact ⟨a, _, c, e⟩
theorem grants_form {w : World} {v : Value} {gs : List (Int × Int)} (h : IsGrants w v gs) : ∃ a n c, v = .slice a n c := by
  obtain ⟨a, c, e, _⟩ := h
  exact ⟨a, _, c, e⟩

set_option maxHeartbeats 2000000 in
theorem checkOk : CheckOk := by
  intro m v gs pr pw bl w hv hp hq
  have hbel : Below w.heap.size w ((w.alloc (.cells #[.int .i64 m, v] 24)).alloc (.cells #[pr, pw] 27)) := ((Below.refl _ w).alloc (Nat.le_refl _) _).alloc (by simp) _
  have hC := fun (W : World) (hB : Below w.heap.size w W) => check_any m v gs W (isGrants_over hv hB)
  have hP := fun (W : World) (hB : Below w.heap.size w W) => labPolicies_any m v pr bl.r W (isPols_over hp hB)
  have hQ := fun (W : World) (hB : Below w.heap.size w W) => labPolicies_any m v pw bl.w W (isPols_over hq hB)
  have hE : lChk m gs bl = if chkErr m gs = 0 then (if polsErr m bl.r = 0 then polsErr m bl.w else polsErr m bl.r) else chkErr m gs := rfl
  obtain ⟨r, hr⟩ : ∃ r, r = chkErr m gs := ⟨_, rfl⟩
  obtain ⟨p1, hp1⟩ : ∃ r, r = polsErr m bl.r := ⟨_, rfl⟩
  obtain ⟨p2, hp2⟩ : ∃ r, r = polsErr m bl.w := ⟨_, rfl⟩
  rw [← hr, ← hp1, ← hp2] at hE
  rw [← hr] at hC
  rw [← hp1] at hP
  rw [← hp2] at hQ
  obtain ⟨va, vn, vc, rfl⟩ := grants_form hv
  obtain ⟨pa, pn, pc, rfl⟩ := pols_form hp
  obtain ⟨qa, qn, qc, rfl⟩ := pols_form hq
  have KC := hide hC
  have KP := hide hP
  have KQ := hide hQ
  have HE := hide hE
  clear hC hP hQ hE hr hp1 hp2 hv hp hq
  go_enter Try.func13, Try.ntmps13
  go_wp2_with fail
  refine (KC.out _ hbel).mono ?_
  rintro e w1 ⟨rfl, hb1⟩
  obtain ⟨hc, hf⟩ := bcell hb1
  have c0 : w1.cell? ⟨w.heap.size, 0, none⟩ = some (.int .i64 m) := by rw [hc _ _ (by simp; omega)]; simp [go_sem]
  have c1 : w1.cell? ⟨w.heap.size, 1, none⟩ = some (.slice va vn vc) := by rw [hc _ _ (by simp; omega)]; simp [go_sem]
  have c2 : w1.cell? ⟨w.heap.size + 1, 0, none⟩ = some (.slice pa pn pc) := by rw [hc _ _ (by simp)]; simp [go_sem]
  have c3 : w1.cell? ⟨w.heap.size + 1, 1, none⟩ = some (.slice qa qn qc) := by rw [hc _ _ (by simp)]; simp [go_sem]
  have hB1 : Below w.heap.size w w1 := hbel.trans (hb1.mono (by simp; omega))
  clear hc hf hb1 hbel KC
  by_cases hr0 : r = 0
  · subst hr0
    go_wp2_with fail
    refine (KP.out _ hB1).mono ?_
    rintro e w2 ⟨rfl, hb2⟩
    have ltw := World.block_lt_of_cell? w1 _ c0
    have ltp := World.block_lt_of_cell? w1 _ c2
    obtain ⟨hc, hf⟩ := bcell hb2
    have d0 : w2.cell? ⟨w.heap.size, 0, none⟩ = some (.int .i64 m) := by rw [hc _ _ ltw]; exact c0
    have d1 : w2.cell? ⟨w.heap.size, 1, none⟩ = some (.slice va vn vc) := by rw [hc _ _ ltw]; exact c1
    have d3 : w2.cell? ⟨w.heap.size + 1, 1, none⟩ = some (.slice qa qn qc) := by rw [hc _ _ ltp]; exact c3
    have hB2 : Below w.heap.size w w2 := hB1.trans (hb2.mono hB1.size)
    clear hc hf hb2 hB1 c0 c1 c2 c3 KP
    by_cases hp0 : p1 = 0
    · subst hp0
      go_wp2_with fail
      refine (KQ.out _ hB2).mono ?_
      rintro e w3 ⟨rfl, hb3⟩
      have hB3 : Below w.heap.size w w3 := hB2.trans (hb3.mono hB2.size)
      clear d0 d1 d3 hb3 KQ
      go_wp2_with fail
      go_ret
      exact ⟨by rw [HE.out]; simp, hB3⟩
    · have hne : (p1 != 0) = true := by simpa using hp0
      go_wp2_with fail
      go_ret
      exact ⟨by rw [HE.out]; simp [hp0], hB2⟩
  · have hne : (r != 0) = true := by simpa using hr0
    go_wp2_with fail
    go_ret
    exact ⟨by rw [HE.out]; simp [hr0], hB1⟩

/-- one row of bools, somewhere. -/
def RowAt (W : World) (b n : Nat) (l : List Bool) : Prop := l.length = n ∧ ∀ i (h : i < l.length), W.cell? ⟨b, i, none⟩ = some (.bool l[i])

theorem rowAt_over {W W' : World} {b n : Nat} {l : List Bool} (h : RowAt W b n l) (hb : Below W.heap.size W W') : RowAt W' b n l :=
  ⟨h.1, fun i hi => by rw [(bcell hb).1 _ _ (World.block_lt_of_cell? W _ (h.2 i hi))]; exact h.2 i hi⟩

set_option maxHeartbeats 400000 in
theorem actsForC_any (b kb n : Nat) (l : List Bool) (x : Int) (W : World) (hn : n ≤ 6) (hx : 0 ≤ x ∧ x < n) (h0 : W.cell? ⟨b, 0, none⟩ = some (.slice (some ⟨kb, 0, none⟩) n n)) (hr : RowAt W kb n l) :
    Calls Try.prog 49 #[.int .i64 x, .pointer (some ⟨b, 0, none⟩)] W fun e w' => e = .returned (.bool (l[x.toNat]?.getD false)) ∧ Below W.heap.size W w' := by
  obtain ⟨k, rfl⟩ : ∃ k : Nat, x = k := ⟨x.toNat, by omega⟩
  have hk : k < l.length := by rw [hr.1]; omega
  have q := hr.2 k hk
  have hx2 : l[(k : Int).toNat]?.getD false = l[k] := by simp [hk]
  rw [hx2]
  obtain ⟨y, hy⟩ : ∃ y, y = l[k] := ⟨_, rfl⟩
  rw [← hy] at q ⊢
  clear hy hx2 hr
  go_enter Try.func49, Try.ntmps49
  go_wp2_with fail
  go_ret
  exact ⟨by simp, Below.refl _ W⟩

/-- may one, who acts for those of a row, by a policy; by all of them? -/
def polR (l : List Bool) (p : Pol) : Bool := (l[p.owner.toNat]?.getD false) || p.names.any (fun x => l[x.toNat]?.getD false)

set_option maxHeartbeats 2000000 in
theorem mayByAll_any (kb n : Nat) (l : List Bool) (vp : Value) (ps : List Pol) (w : World) (hn : n ≤ 6) (hr : RowAt w kb n l) (hp : IsPols w vp ps) (hps : ps.length ≤ 4 ∧ ∀ p ∈ ps, polIn n p) :
    Calls Try.prog 31 #[.slice (some ⟨kb, 0, none⟩) n n, vp] w fun e w' => e = .returned (.bool (ps.all (polR l))) ∧ Below w.heap.size w w' := by
  have HP := hide hp
  obtain ⟨ao, cap, rfl, -⟩ := hp
  have hbel : Below w.heap.size w (w.alloc (.cells #[.slice (some ⟨kb, 0, none⟩) n n] 28)) := (Below.refl _ w).alloc (Nat.le_refl _) _
  have KA := hide fun (x : Int) (W : World) (hx : 0 ≤ x ∧ x < n) (hB : Below w.heap.size w W) (h0 : W.cell? ⟨w.heap.size, 0, none⟩ = some (.slice (some ⟨kb, 0, none⟩) n n)) => actsForC_any w.heap.size kb n l x W hn hx h0 (rowAt_over hr hB)
  have hl4 := hps.1
  have HPS := hide hps.2
  clear hps hr
  go_enter Try.func31, Try.ntmps31
  go_wp2_with fail
  go_loopw [11] (fun i wr => ∃ k : Nat, k ≤ ps.length ∧ i = .int .i64 k ∧ (ps.take k).all (polR l) = true ∧ Below w.heap.size w wr ∧ wr.cell? ⟨w.heap.size, 0, none⟩ = some (.slice (some ⟨kb, 0, none⟩) n n)) (fun i _ => ps.length - (intOf i).toNat)
  case atStart => exact ⟨0, Nat.zero_le _, rfl, rfl, hbel, by simp [go_sem]⟩
  case round =>
    obtain ⟨k, hk, rfl, hall, hbw, c0⟩ := hrel
    by_cases hkl : k < ps.length
    · obtain ⟨b, off, cap', nv, hve, q0, q1, q2⟩ := isPols_at (isPols_over HP.out hbw) hkl
      injection hve with e1 e2 e3
      subst e1 e3
      clear e2
      obtain ⟨hown, hnm6, hnms⟩ := HPS.out ps[k] (List.getElem_mem hkl)
      have hpr : polR l ps[k] = ((l[ps[k].owner.toNat]?.getD false) || ps[k].names.any (fun x => l[x.toNat]?.getD false)) := rfl
      have hnext : polR l ps[k] = true → (ps.take (k + 1)).all (polR l) = true := fun h => by
        rw [List.take_succ_eq_append_getElem hkl, List.all_append, hall]
        simp [h]
      have hstop : polR l ps[k] = false → ps.all (polR l) = false := fun h => by
        rw [List.all_eq_false]
        exact ⟨ps[k], List.getElem_mem hkl, by simp [h]⟩
      have hal : Below wr.heap.size wr (wr.alloc (.cells #[.int .i64 ps[k].owner, nv] 50)) := (Below.refl _ wr).alloc (Nat.le_refl _) _
      have hO := fun (W : World) (hB : Below w.heap.size w W) (h0 : W.cell? ⟨w.heap.size, 0, none⟩ = some (.slice (some ⟨kb, 0, none⟩) n n)) => KA.out ps[k].owner W hown hB h0
      have hN := fun (W : World) (hB : Below w.heap.size w W) (hB2 : Below wr.heap.size wr W) (h0 : W.cell? ⟨w.heap.size, 0, none⟩ = some (.slice (some ⟨kb, 0, none⟩) n n)) => containsInt_any 49 (.pointer (some ⟨w.heap.size, 0, none⟩)) (fun x => l[x.toNat]?.getD false) nv ps[k].names W (isInts_over q2 hB2) hnm6 (hide fun i hi w1 hb => KA.out ps[k].names[i] w1 (hnms _ (List.getElem_mem hi)) (hB.trans (hb.mono hB.size)) (by rw [(bcell hb).1 _ _ (World.block_lt_of_cell? W _ h0)]; exact h0)) call49
      obtain ⟨x1, hx1⟩ : ∃ r, r = l[ps[k].owner.toNat]?.getD false := ⟨_, rfl⟩
      obtain ⟨x2, hx2⟩ : ∃ r, r = ps[k].names.any (fun x => l[x.toNat]?.getD false) := ⟨_, rfl⟩
      obtain ⟨ow, how⟩ : ∃ r, r = ps[k].owner := ⟨_, rfl⟩
      rw [← hx1, ← hx2] at hpr
      rw [hpr] at hnext hstop
      rw [← hx1] at hO
      rw [← hx2] at hN
      rw [← how] at q0 hal hO
      obtain ⟨na, nn, nc, hnv⟩ : ∃ a n c, nv = .slice a n c := by obtain ⟨a, c, e, _⟩ := q2; exact ⟨a, _, c, e⟩
      subst hnv
      have HN := hide hnext
      have HS := hide hstop
      have KO := hide hO
      have KN := hide hN
      have hbw2 := hbw.trans (hal.mono hbw.size)
      have ltw := World.block_lt_of_cell? wr _ c0
      have ltb := World.block_lt_of_cell? wr _ q0
      have c0' : (wr.alloc (.cells #[.int .i64 ow, .slice na nn nc] 50)).cell? ⟨w.heap.size, 0, none⟩ = some (.slice (some ⟨kb, 0, none⟩) n n) := by rw [(bcell hal).1 _ _ ltw]; exact c0
      have HC0 := hide c0'
      clear hx1 hx2 how hpr hnext hstop hO hN hall q2 c0' hown hnm6 hnms
      cases x1 with
      | true =>
        go_wp2_with fail
        refine (KO.out _ hbw2 HC0.out).mono ?_
        rintro e w2 ⟨rfl, hb2⟩
        have hb3 := hbw2.trans (hb2.mono hbw2.size)
        have d0 : w2.cell? ⟨w.heap.size, 0, none⟩ = some (.slice (some ⟨kb, 0, none⟩) n n) := by rw [(bcell hb2).1 _ _ (World.block_lt_of_cell? _ _ HC0.out)]; exact HC0.out
        clear hb2 hbw2 c0 q0 q1 HC0
        go_wp2_with fail
        exact ⟨⟨k + 1, by omega, by go_num, HN.out (by simp), hb3, d0⟩, by simp [intOf]; omega⟩
      | false =>
        go_wp2_with fail
        refine (KO.out _ hbw2 HC0.out).mono ?_
        rintro e w2 ⟨rfl, hb2⟩
        have hb3 := hbw2.trans (hb2.mono hbw2.size)
        have d0 : w2.cell? ⟨w.heap.size, 0, none⟩ = some (.slice (some ⟨kb, 0, none⟩) n n) := by rw [(bcell hb2).1 _ _ (World.block_lt_of_cell? _ _ HC0.out)]; exact HC0.out
        have d1 : w2.cell? ⟨wr.heap.size, 1, none⟩ = some (.slice na nn nc) := by rw [(bcell hb2).1 _ _ (by simp)]; simp [go_sem]
        have hb4 : Below wr.heap.size wr w2 := hal.trans (hb2.mono (by simp))
        clear hb2 hbw2 c0 q0 q1 HC0
        go_wp2_with fail
        refine (KN.out _ hb3 hb4 d0).mono ?_
        rintro e w3 ⟨rfl, hb5⟩
        have hb6 := hb3.trans (hb5.mono hb3.size)
        have f0 : w3.cell? ⟨w.heap.size, 0, none⟩ = some (.slice (some ⟨kb, 0, none⟩) n n) := by rw [(bcell hb5).1 _ _ (World.block_lt_of_cell? _ _ d0)]; exact d0
        clear hb5 hb3 d0 d1 hb4 KN KO
        cases x2 with
        | true =>
          go_wp2_with fail
          exact ⟨⟨k + 1, by omega, by go_num, HN.out (by simp), hb6, f0⟩, by simp [intOf]; omega⟩
        | false =>
          go_wp2_with fail
          go_ret
          exact ⟨by rw [HS.out (by simp)]; rfl, hb6⟩
    · have hke : k = ps.length := by omega
      have hz : ps.all (polR l) = true := by rw [hke, List.take_length] at hall; exact hall
      have HZ := hide hz
      clear hz hall c0
      go_wp2_with fail
      go_ret
      exact ⟨by rw [HZ.out]; rfl, hbw⟩
end Go.Proofs.Ytekgnjifopgboaa

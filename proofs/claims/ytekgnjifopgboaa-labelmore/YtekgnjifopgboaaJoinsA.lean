/- veilworklaw.LabelJoins answers true, whatever it is handed: the walk. -/
import Derived.Test.YtekgnjifopgboaaLevels
namespace Go.Proofs.Ytekgnjifopgboaa
open Go.RowKit
set_option linter.unusedVariables false
attribute [local go_sem ↓] Go.wp_at_zero Go.wp_at_succ

theorem held6 {w W W' : World} {b0 o0 b1 o1 b2 o2 b3 o3 b4 o4 b5 o5 : Nat} {v0 v1 v2 v3 v4 v5 : Value} (h : W.cell? ⟨b0, o0, none⟩ = some v0 ∧ W.cell? ⟨b1, o1, none⟩ = some v1 ∧ W.cell? ⟨b2, o2, none⟩ = some v2 ∧ W.cell? ⟨b3, o3, none⟩ = some v3 ∧ W.cell? ⟨b4, o4, none⟩ = some v4 ∧ W.cell? ⟨b5, o5, none⟩ = some v5 ∧ Below w.heap.size w W) (hb : Below W.heap.size W W') : W'.cell? ⟨b0, o0, none⟩ = some v0 ∧ W'.cell? ⟨b1, o1, none⟩ = some v1 ∧ W'.cell? ⟨b2, o2, none⟩ = some v2 ∧ W'.cell? ⟨b3, o3, none⟩ = some v3 ∧ W'.cell? ⟨b4, o4, none⟩ = some v4 ∧ W'.cell? ⟨b5, o5, none⟩ = some v5 ∧ Below w.heap.size w W' := by
  obtain ⟨h0, h1, h2, h3, h4, h5, hB⟩ := h
  have up : ∀ b o v, W.cell? ⟨b, o, none⟩ = some v → W'.cell? ⟨b, o, none⟩ = some v := fun b o v h => by rw [(bcell hb).1 _ _ (World.block_lt_of_cell? W _ h)]; exact h
  exact ⟨up _ _ _ h0, up _ _ _ h1, up _ _ _ h2, up _ _ _ h3, up _ _ _ h4, up _ _ _ h5, hB.trans (hb.mono hB.size)⟩

theorem ownB_not {W : World} {B p k : Nat} {v x y : Value} {xs : List Value} (h : W.ownsRow B 4 1 v k xs) (hp : W.heap[p]? = some (.cells #[x, y] 30 (0, 0))) (o : Nat) (u : Value) : (W.setCell ⟨p, o, none⟩ u).ownsRow B 4 1 v k xs := by
  obtain ⟨h1, h2⟩ := h
  refine ⟨h1, ?_⟩
  rcases h2 with h2 | ⟨g, cap, cur, hv, hg, hh, r⟩
  · exact Or.inl h2
  · refine Or.inr ⟨g, cap, cur, hv, hg, ?_, r⟩
    rw [heap_setCell_other]
    · exact hh
    · intro e
      simp only at e
      subst e
      rw [hh] at hp
      simp at hp

theorem fresh_set {w W : World} {p : Nat} {x y a b v : Value} {L : Lev} (h : LevFresh w W v L) (hp : W.heap[p]? = some (.cells #[x, y] 30 (0, 0))) : LevFresh w ((W.setCell ⟨p, 0, none⟩ a).setCell ⟨p, 1, none⟩ b) v L := by
  obtain ⟨vr, vw, e, h1, h2, h3⟩ := h
  have hp' : (W.setCell ⟨p, 0, none⟩ a).heap[p]? = some (.cells #[a, y] 30 (0, 0)) := by
    have := heap_setCell_same W p 0 _ _ a hp
    simpa using this
  exact ⟨vr, vw, e, ownB_not (ownB_not h1 hp _ _) hp' _ _, ownB_not (ownB_not h2 hp _ _) hp' _ _, h3⟩

theorem heap_set2 {W : World} {p q : Nat} {o : Obj} {a b : Value} (h : W.heap[q]? = some o) (hne : q ≠ p) : ((W.setCell ⟨p, 0, none⟩ a).setCell ⟨p, 1, none⟩ b).heap[q]? = some o := by
  rw [heap_setCell_other _ _ _ _ hne, heap_setCell_other _ _ _ _ hne]
  exact h

theorem box_new2 (W : World) (o : Obj) : Box ((W.alloc o).alloc (.cells #[.slice none 0 0, .slice none 0 0] 30)) (W.heap.size + 1) (.slice none 0 0) (.slice none 0 0) noLev := by
  have := box_new (noLev_at (W.alloc o))
  simpa using this

theorem lTwo_chk {m : Int} {gs : List (Int × Int)} {l k : Lev} (h : chkErr m gs ≠ 0) : lTwo m gs l k = chkErr m gs ∧ lRight m gs l = chkErr m gs := by
  have h1 : lRight m gs l = chkErr m gs := by unfold lRight; rw [if_neg h]
  exact ⟨by unfold lTwo; rw [h1, if_neg h], h1⟩
theorem lTwo_l {m : Int} {gs : List (Int × Int)} {l k : Lev} (h : chkErr m gs = 0) (hl : levErr m l = 1) : lTwo m gs l k = 1 ∧ lRight m gs l = 1 := by
  have h1 : lRight m gs l = 1 := by unfold lRight; rw [if_pos h, hl]
  exact ⟨by unfold lTwo; rw [h1, if_neg (by decide)], h1⟩
theorem lTwo_k {m : Int} {gs : List (Int × Int)} {l k : Lev} (h : chkErr m gs = 0) (hl : levErr m l = 0) : lTwo m gs l k = levErr m k ∧ lRight m gs l = 0 := by
  have h1 : lRight m gs l = 0 := by unfold lRight; rw [if_pos h, hl]
  exact ⟨by unfold lTwo; rw [h1, if_pos rfl]; unfold lRight; rw [if_pos h], h1⟩
theorem joinL_small (l k : Lev) (n : Nat) (hn : n ≤ 6) : (joinL l k n).small ∧ (meetL l k n).small := by
  unfold Lev.small joinL meetL
  simp only [rowOf_length]
  omega
theorem joinL_len (l k : Lev) (n : Nat) : ((joinL l k n).r.length = n ∧ (joinL l k n).w.length = n) ∧ (meetL l k n).r.length = n ∧ (meetL l k n).w.length = n := ⟨⟨rowOf_length _ _, rowOf_length _ _⟩, rowOf_length _ _, rowOf_length _ _⟩

set_option maxRecDepth 100000 in
set_option maxHeartbeats 8000000 in
theorem joins_chk (m : Int) (v : Value) (gs : List (Int × Int)) (vl vk : Value) (l k : Lev) (w : World) (hv : IsGrants w v gs) (hl : LevAt w vl l) (hk : LevAt w vk k) (hE : chkErr m gs ≠ 0) :
    Calls Try.prog 4 #[.agg #[.int .i64 m, v], vl, vk] w fun e w' => e = .returned (.bool true) ∧ Below w.heap.size w w' := by
  have hKF := fun (W : World) (hW : Below w.heap.size w W) => flowsOk m v gs vl vk l k W (isGrants_over hv hW) (levAt_over hl hW) (levAt_over hk hW)
  have hKJ := fun (W : World) (hW : Below w.heap.size w W) => joinOk m v gs vl vk l k W (isGrants_over hv hW) (levAt_over hl hW) (levAt_over hk hW)
  have hKM := fun (W : World) (hW : Below w.heap.size w W) => meetOk m v gs vl vk l k W (isGrants_over hv hW) (levAt_over hl hW) (levAt_over hk hW)
  have hKA := fun (W : World) (hW : Below w.heap.size w W) => refCheck_any m v gs W (isGrants_over hv hW)
  have hKl := fun (W : World) (hW : Below w.heap.size w W) => checkLevel_any m v vl l W (levAt_over hl hW)
  have hKk := fun (W : World) (hW : Below w.heap.size w W) => checkLevel_any m v vk k W (levAt_over hk hW)
  have hKR := fun (W : World) (hW : Below w.heap.size w W) => rightOk m v gs vl l W (isGrants_over hv hW) (levAt_over hl hW)
  obtain ⟨hX, hY⟩ := lTwo_chk (l := l) (k := k) hE
  rw [hX, if_neg hE] at hKJ hKM
  rw [hX, decide_eq_false hE, Bool.false_and] at hKF
  rw [hY] at hKR
  obtain ⟨r, hr⟩ : ∃ r, r = chkErr m gs := ⟨_, rfl⟩
  rw [← hr] at hE hKF hKJ hKM hKA hKR
  have b2 : (r == 0) = false := by simpa using hE
  have HFJ := hide (levelIs_self noLev noLev r (by simp))
  have HFM := hide (levelIs_self noLev noLev r (by simp))
  have HSJ := hide noLev_small
  have HSM := hide noLev_small
  clear hr hX hY
  have KI := hide fun (vl vm : Value) (W : World) (hl : LevAt W vl (noLev)) (hm : LevAt W vm (noLev)) => levelIs_any vl vm (noLev) (noLev) r r W hl hm HSJ.out
  have KI2 := hide fun (vl vm : Value) (W : World) (hl : LevAt W vl (noLev)) (hm : LevAt W vm (noLev)) => levelIs_any vl vm (noLev) (noLev) r r W hl hm HSM.out
  have KF := hide hKF
  have KJ := hide hKJ
  have KM := hide hKM
  have KA := hide hKA
  have Kl := hide hKl
  have Kk := hide hKk
  have KR := hide hKR
  obtain ⟨a1, k1, a2, k2, rfl⟩ := lev_form hl
  obtain ⟨a3, k3, a4, k4, rfl⟩ := lev_form hk
  obtain ⟨va, vn, vc, rfl⟩ := grants_form hv
  have hs0 : Hid ((((w.alloc (.cells #[.int .i64 m, .slice va vn vc] 24)).alloc (.cells #[.slice a1 l.r.length k1, .slice a2 l.w.length k2] 30)).alloc (.cells #[.slice a3 k.r.length k3, .slice a4 k.w.length k4] 30)).cell? ⟨w.heap.size, 0, none⟩ = some (.int .i64 m) ∧ (((w.alloc (.cells #[.int .i64 m, .slice va vn vc] 24)).alloc (.cells #[.slice a1 l.r.length k1, .slice a2 l.w.length k2] 30)).alloc (.cells #[.slice a3 k.r.length k3, .slice a4 k.w.length k4] 30)).cell? ⟨w.heap.size, 1, none⟩ = some (.slice va vn vc) ∧ (((w.alloc (.cells #[.int .i64 m, .slice va vn vc] 24)).alloc (.cells #[.slice a1 l.r.length k1, .slice a2 l.w.length k2] 30)).alloc (.cells #[.slice a3 k.r.length k3, .slice a4 k.w.length k4] 30)).cell? ⟨w.heap.size + 1, 0, none⟩ = some (.slice a1 l.r.length k1) ∧ (((w.alloc (.cells #[.int .i64 m, .slice va vn vc] 24)).alloc (.cells #[.slice a1 l.r.length k1, .slice a2 l.w.length k2] 30)).alloc (.cells #[.slice a3 k.r.length k3, .slice a4 k.w.length k4] 30)).cell? ⟨w.heap.size + 1, 1, none⟩ = some (.slice a2 l.w.length k2) ∧ (((w.alloc (.cells #[.int .i64 m, .slice va vn vc] 24)).alloc (.cells #[.slice a1 l.r.length k1, .slice a2 l.w.length k2] 30)).alloc (.cells #[.slice a3 k.r.length k3, .slice a4 k.w.length k4] 30)).cell? ⟨w.heap.size + 1 + 1, 0, none⟩ = some (.slice a3 k.r.length k3) ∧ (((w.alloc (.cells #[.int .i64 m, .slice va vn vc] 24)).alloc (.cells #[.slice a1 l.r.length k1, .slice a2 l.w.length k2] 30)).alloc (.cells #[.slice a3 k.r.length k3, .slice a4 k.w.length k4] 30)).cell? ⟨w.heap.size + 1 + 1, 1, none⟩ = some (.slice a4 k.w.length k4) ∧ Below w.heap.size w (((w.alloc (.cells #[.int .i64 m, .slice va vn vc] 24)).alloc (.cells #[.slice a1 l.r.length k1, .slice a2 l.w.length k2] 30)).alloc (.cells #[.slice a3 k.r.length k3, .slice a4 k.w.length k4] 30))) := ⟨by simp [go_sem], by simp [go_sem], by simp [go_sem], by simp [go_sem], by simp [go_sem], by simp [go_sem], (((Below.refl _ w).alloc (Nat.le_refl _) _).alloc (by simp) _).alloc (by simp; omega) _⟩
  clear hKF hKJ hKM hKA hKl hKk hKR hv hl hk
  clear Kl Kk
  have hB := hs0.out.2.2.2.2.2.2
  go_enter Try.func4, Try.ntmps4
  go_wp2_with fail
  refine (KF.out _ hB).mono ?_
  rintro e w1 ⟨rfl, hb1⟩
  clear hB
  have hs1 := hide (held6 hs0.out hb1)
  clear hs0 
  clear hb1 KF
  obtain ⟨c0, c1, c2, c3, c4, c5, hB⟩ := hs1.out
  go_wp2_with fail
  refine (KJ.out _ hB).mono ?_
  rintro e w2 ⟨vj, rfl, hjf, hb2⟩
  have hs2 := hide (held6 hs1.out hb2)
  clear hs1 
  clear c0 c1 c2 c3 c4 c5 hB
  have hja := levFresh_at hjf
  obtain ⟨a5, k5, a6, k6, rfl⟩ := lev_form hja
  have hal2 := (Below.refl _ w2).alloc (Nat.le_refl _) (.cells #[.slice a5 (noLev).r.length k5, .slice a6 (noLev).w.length k6] 30)
  have hj3 := hide (box_new hja)
  have hs3 := hide (held6 hs2.out hal2)
  clear hs2 
  clear hjf hja hb2 hal2 KJ
  obtain ⟨c0, c1, c2, c3, c4, c5, hB⟩ := hs3.out
  go_wp2_with fail
  refine (KM.out _ hB).mono ?_
  rintro e w4 ⟨vm, rfl, hmf, hb4⟩
  have hs4 := hide (held6 hs3.out hb4)
  have hj4 := hide (hj3.out.over hb4)
  clear hs3 hj3
  clear c0 c1 c2 c3 c4 c5 hB
  have hma := levFresh_at hmf
  obtain ⟨a7, k7, a8, k8, rfl⟩ := lev_form hma
  have hal4 := (Below.refl _ w4).alloc (Nat.le_refl _) (.cells #[.slice a7 (noLev).r.length k7, .slice a8 (noLev).w.length k8] 30)
  have hm5 := hide (box_new hma)
  have hs5 := hide (held6 hs4.out hal4)
  have hj5 := hide (hj4.out.over hal4)
  clear hs4 hj4
  clear hmf hma hb4 hal4 KM
  obtain ⟨c0, c1, c2, c3, c4, c5, hB⟩ := hs5.out
  go_wp2_with fail
  refine (KA.out _ hB).mono ?_
  rintro e w6 ⟨rfl, hb6⟩
  clear c0 c1 c2 c3 c4 c5 hB
  have hs6 := hide (held6 hs5.out hb6)
  have hj6 := hide (hj5.out.over hb6)
  have hm6 := hide (hm5.out.over hb6)
  clear hs5 hj5 hm5
  clear hb6 KA
  have al1 := (Below.refl _ w6).alloc (Nat.le_refl _) (.cells #[.slice none 0 0, .slice none 0 0] 30)
  have al2 := (Below.refl _ (w6.alloc (.cells #[.slice none 0 0, .slice none 0 0] 30))).alloc (Nat.le_refl _) (.cells #[.slice none 0 0, .slice none 0 0] 30)
  have al := al1.trans (al2.mono al1.size)
  have hu10 := hide ((box_new (noLev_at w6)).over al2)
  have hv10 := hide (box_new2 w6 (.cells #[.slice none 0 0, .slice none 0 0] 30))
  have hs10 := hide (held6 hs6.out al)
  have hj10 := hide (hj6.out.over al)
  have hm10 := hide (hm6.out.over al)
  clear hs6 hj6 hm6
  clear al1 al2 al
  go_wp2_with fail
  refine (begun_any _).mono ?_
  rintro e w11 ⟨rfl, hb11⟩
  have hs11 := hide (held6 hs10.out hb11)
  have hj11 := hide (hj10.out.over hb11)
  have hm11 := hide (hm10.out.over hb11)
  have hu11 := hide (hu10.out.over hb11)
  have hv11 := hide (hv10.out.over hb11)
  clear hs10 hj10 hm10 hu10 hv10
  clear hb11
  obtain ⟨c0, c1, c2, c3, c4, c5, hB⟩ := hs11.out
  go_wp2_with fail
  refine (KR.out _ hB).mono ?_
  rintro e w12 ⟨rfl, hb12⟩
  clear c0 c1 c2 c3 c4 c5 hB
  have hs12 := hide (held6 hs11.out hb12)
  have hj12 := hide (hj11.out.over hb12)
  have hm12 := hide (hm11.out.over hb12)
  have hu12 := hide (hu11.out.over hb12)
  have hv12 := hide (hv11.out.over hb12)
  clear hs11 hj11 hm11 hu11 hv11
  have hB := hs12.out.2.2.2.2.2.2
  obtain ⟨x0, x1, -⟩ := hj12.out
  obtain ⟨y0, y1, -⟩ := hu12.out
  clear hb12 KR
  have bb : (r == r) = true := by simp
  go_wp2_with fail
  refine (KI.out _ _ _ hj12.out.2.2 hu12.out.2.2).mono ?_
  rintro e w13 ⟨rfl, hb13⟩
  have hB13 := hB.trans (hb13.mono hB.size)
  have hm13 := hide (hm12.out.over hb13)
  have hv13 := hide (hv12.out.over hb13)
  have e1 := HFJ.out
  clear x0 x1 y0 y1 hj12 hu12 hm12 hv12 hb13 KI hB hs12
  obtain ⟨x0, x1, -⟩ := hm13.out
  obtain ⟨y0, y1, -⟩ := hv13.out
  go_wp2_with fail
  refine (KI2.out _ _ _ hm13.out.2.2 hv13.out.2.2).mono ?_
  rintro e w14 ⟨rfl, hb14⟩
  have hB14 := hB13.trans (hb14.mono hB13.size)
  have e2 := HFM.out
  clear x0 x1 y0 y1 hm13 hv13 hb14 KI2 hB13
  go_wp2_with fail
  go_ret
  exact ⟨by first | rfl | (simp; done) | (simp only [e2]; rfl), hB14⟩

set_option maxRecDepth 100000 in
set_option maxHeartbeats 8000000 in
theorem joins_l (m : Int) (v : Value) (gs : List (Int × Int)) (vl vk : Value) (l k : Lev) (w : World) (hv : IsGrants w v gs) (hl : LevAt w vl l) (hk : LevAt w vk k) (hE : chkErr m gs = 0) (hL : levErr m l = 1) :
    Calls Try.prog 4 #[.agg #[.int .i64 m, v], vl, vk] w fun e w' => e = .returned (.bool true) ∧ Below w.heap.size w w' := by
  have hKF := fun (W : World) (hW : Below w.heap.size w W) => flowsOk m v gs vl vk l k W (isGrants_over hv hW) (levAt_over hl hW) (levAt_over hk hW)
  have hKJ := fun (W : World) (hW : Below w.heap.size w W) => joinOk m v gs vl vk l k W (isGrants_over hv hW) (levAt_over hl hW) (levAt_over hk hW)
  have hKM := fun (W : World) (hW : Below w.heap.size w W) => meetOk m v gs vl vk l k W (isGrants_over hv hW) (levAt_over hl hW) (levAt_over hk hW)
  have hKA := fun (W : World) (hW : Below w.heap.size w W) => refCheck_any m v gs W (isGrants_over hv hW)
  have hKl := fun (W : World) (hW : Below w.heap.size w W) => checkLevel_any m v vl l W (levAt_over hl hW)
  have hKk := fun (W : World) (hW : Below w.heap.size w W) => checkLevel_any m v vk k W (levAt_over hk hW)
  have hKR := fun (W : World) (hW : Below w.heap.size w W) => rightOk m v gs vl l W (isGrants_over hv hW) (levAt_over hl hW)
  obtain ⟨hX, hY⟩ := lTwo_l (l := l) (k := k) hE hL
  rw [hX, if_neg (by decide)] at hKJ hKM
  rw [hX, decide_eq_false (by decide), Bool.false_and] at hKF
  rw [hY] at hKR
  rw [hE] at hKA
  rw [hL] at hKl
  have HFJ := hide (levelIs_self noLev noLev 1 (by simp))
  have HFM := hide (levelIs_self noLev noLev 1 (by simp))
  have HSJ := hide noLev_small
  have HSM := hide noLev_small
  clear hX hY hE hL
  have KI := hide fun (vl vm : Value) (W : World) (hl : LevAt W vl (noLev)) (hm : LevAt W vm (noLev)) => levelIs_any vl vm (noLev) (noLev) 1 1 W hl hm HSJ.out
  have KI2 := hide fun (vl vm : Value) (W : World) (hl : LevAt W vl (noLev)) (hm : LevAt W vm (noLev)) => levelIs_any vl vm (noLev) (noLev) 1 1 W hl hm HSM.out
  have KF := hide hKF
  have KJ := hide hKJ
  have KM := hide hKM
  have KA := hide hKA
  have Kl := hide hKl
  have Kk := hide hKk
  have KR := hide hKR
  obtain ⟨a1, k1, a2, k2, rfl⟩ := lev_form hl
  obtain ⟨a3, k3, a4, k4, rfl⟩ := lev_form hk
  obtain ⟨va, vn, vc, rfl⟩ := grants_form hv
  have hs0 : Hid ((((w.alloc (.cells #[.int .i64 m, .slice va vn vc] 24)).alloc (.cells #[.slice a1 l.r.length k1, .slice a2 l.w.length k2] 30)).alloc (.cells #[.slice a3 k.r.length k3, .slice a4 k.w.length k4] 30)).cell? ⟨w.heap.size, 0, none⟩ = some (.int .i64 m) ∧ (((w.alloc (.cells #[.int .i64 m, .slice va vn vc] 24)).alloc (.cells #[.slice a1 l.r.length k1, .slice a2 l.w.length k2] 30)).alloc (.cells #[.slice a3 k.r.length k3, .slice a4 k.w.length k4] 30)).cell? ⟨w.heap.size, 1, none⟩ = some (.slice va vn vc) ∧ (((w.alloc (.cells #[.int .i64 m, .slice va vn vc] 24)).alloc (.cells #[.slice a1 l.r.length k1, .slice a2 l.w.length k2] 30)).alloc (.cells #[.slice a3 k.r.length k3, .slice a4 k.w.length k4] 30)).cell? ⟨w.heap.size + 1, 0, none⟩ = some (.slice a1 l.r.length k1) ∧ (((w.alloc (.cells #[.int .i64 m, .slice va vn vc] 24)).alloc (.cells #[.slice a1 l.r.length k1, .slice a2 l.w.length k2] 30)).alloc (.cells #[.slice a3 k.r.length k3, .slice a4 k.w.length k4] 30)).cell? ⟨w.heap.size + 1, 1, none⟩ = some (.slice a2 l.w.length k2) ∧ (((w.alloc (.cells #[.int .i64 m, .slice va vn vc] 24)).alloc (.cells #[.slice a1 l.r.length k1, .slice a2 l.w.length k2] 30)).alloc (.cells #[.slice a3 k.r.length k3, .slice a4 k.w.length k4] 30)).cell? ⟨w.heap.size + 1 + 1, 0, none⟩ = some (.slice a3 k.r.length k3) ∧ (((w.alloc (.cells #[.int .i64 m, .slice va vn vc] 24)).alloc (.cells #[.slice a1 l.r.length k1, .slice a2 l.w.length k2] 30)).alloc (.cells #[.slice a3 k.r.length k3, .slice a4 k.w.length k4] 30)).cell? ⟨w.heap.size + 1 + 1, 1, none⟩ = some (.slice a4 k.w.length k4) ∧ Below w.heap.size w (((w.alloc (.cells #[.int .i64 m, .slice va vn vc] 24)).alloc (.cells #[.slice a1 l.r.length k1, .slice a2 l.w.length k2] 30)).alloc (.cells #[.slice a3 k.r.length k3, .slice a4 k.w.length k4] 30))) := ⟨by simp [go_sem], by simp [go_sem], by simp [go_sem], by simp [go_sem], by simp [go_sem], by simp [go_sem], (((Below.refl _ w).alloc (Nat.le_refl _) _).alloc (by simp) _).alloc (by simp; omega) _⟩
  clear hKF hKJ hKM hKA hKl hKk hKR hv hl hk
  clear Kk
  have hB := hs0.out.2.2.2.2.2.2
  go_enter Try.func4, Try.ntmps4
  go_wp2_with fail
  refine (KF.out _ hB).mono ?_
  rintro e w1 ⟨rfl, hb1⟩
  clear hB
  have hs1 := hide (held6 hs0.out hb1)
  clear hs0 
  clear hb1 KF
  obtain ⟨c0, c1, c2, c3, c4, c5, hB⟩ := hs1.out
  go_wp2_with fail
  refine (KJ.out _ hB).mono ?_
  rintro e w2 ⟨vj, rfl, hjf, hb2⟩
  have hs2 := hide (held6 hs1.out hb2)
  clear hs1 
  clear c0 c1 c2 c3 c4 c5 hB
  have hja := levFresh_at hjf
  obtain ⟨a5, k5, a6, k6, rfl⟩ := lev_form hja
  have hal2 := (Below.refl _ w2).alloc (Nat.le_refl _) (.cells #[.slice a5 (noLev).r.length k5, .slice a6 (noLev).w.length k6] 30)
  have hj3 := hide (box_new hja)
  have hs3 := hide (held6 hs2.out hal2)
  clear hs2 
  clear hjf hja hb2 hal2 KJ
  obtain ⟨c0, c1, c2, c3, c4, c5, hB⟩ := hs3.out
  go_wp2_with fail
  refine (KM.out _ hB).mono ?_
  rintro e w4 ⟨vm, rfl, hmf, hb4⟩
  have hs4 := hide (held6 hs3.out hb4)
  have hj4 := hide (hj3.out.over hb4)
  clear hs3 hj3
  clear c0 c1 c2 c3 c4 c5 hB
  have hma := levFresh_at hmf
  obtain ⟨a7, k7, a8, k8, rfl⟩ := lev_form hma
  have hal4 := (Below.refl _ w4).alloc (Nat.le_refl _) (.cells #[.slice a7 (noLev).r.length k7, .slice a8 (noLev).w.length k8] 30)
  have hm5 := hide (box_new hma)
  have hs5 := hide (held6 hs4.out hal4)
  have hj5 := hide (hj4.out.over hal4)
  clear hs4 hj4
  clear hmf hma hb4 hal4 KM
  obtain ⟨c0, c1, c2, c3, c4, c5, hB⟩ := hs5.out
  go_wp2_with fail
  refine (KA.out _ hB).mono ?_
  rintro e w6 ⟨rfl, hb6⟩
  clear c0 c1 c2 c3 c4 c5 hB
  have hs6 := hide (held6 hs5.out hb6)
  have hj6 := hide (hj5.out.over hb6)
  have hm6 := hide (hm5.out.over hb6)
  clear hs5 hj5 hm5
  clear hb6 KA
  obtain ⟨c0, c1, c2, c3, c4, c5, hB⟩ := hs6.out
  go_wp2_with fail
  refine (Kl.out _ hB).mono ?_
  rintro e w7 ⟨rfl, hb7⟩
  clear c0 c1 c2 c3 c4 c5 hB
  have hs7 := hide (held6 hs6.out hb7)
  have hj7 := hide (hj6.out.over hb7)
  have hm7 := hide (hm6.out.over hb7)
  clear hs6 hj6 hm6
  clear hb7 Kl
  have al1 := (Below.refl _ w7).alloc (Nat.le_refl _) (.cells #[.slice none 0 0, .slice none 0 0] 30)
  have al2 := (Below.refl _ (w7.alloc (.cells #[.slice none 0 0, .slice none 0 0] 30))).alloc (Nat.le_refl _) (.cells #[.slice none 0 0, .slice none 0 0] 30)
  have al := al1.trans (al2.mono al1.size)
  have hu10 := hide ((box_new (noLev_at w7)).over al2)
  have hv10 := hide (box_new2 w7 (.cells #[.slice none 0 0, .slice none 0 0] 30))
  have hs10 := hide (held6 hs7.out al)
  have hj10 := hide (hj7.out.over al)
  have hm10 := hide (hm7.out.over al)
  clear hs7 hj7 hm7
  clear al1 al2 al
  go_wp2_with fail
  refine (begun_any _).mono ?_
  rintro e w11 ⟨rfl, hb11⟩
  have hs11 := hide (held6 hs10.out hb11)
  have hj11 := hide (hj10.out.over hb11)
  have hm11 := hide (hm10.out.over hb11)
  have hu11 := hide (hu10.out.over hb11)
  have hv11 := hide (hv10.out.over hb11)
  clear hs10 hj10 hm10 hu10 hv10
  clear hb11
  obtain ⟨c0, c1, c2, c3, c4, c5, hB⟩ := hs11.out
  go_wp2_with fail
  refine (KR.out _ hB).mono ?_
  rintro e w12 ⟨rfl, hb12⟩
  clear c0 c1 c2 c3 c4 c5 hB
  have hs12 := hide (held6 hs11.out hb12)
  have hj12 := hide (hj11.out.over hb12)
  have hm12 := hide (hm11.out.over hb12)
  have hu12 := hide (hu11.out.over hb12)
  have hv12 := hide (hv11.out.over hb12)
  clear hs11 hj11 hm11 hu11 hv11
  have hB := hs12.out.2.2.2.2.2.2
  obtain ⟨x0, x1, -⟩ := hj12.out
  obtain ⟨y0, y1, -⟩ := hu12.out
  clear hb12 KR
  go_wp2_with fail
  refine (KI.out _ _ _ hj12.out.2.2 hu12.out.2.2).mono ?_
  rintro e w13 ⟨rfl, hb13⟩
  have hB13 := hB.trans (hb13.mono hB.size)
  have hm13 := hide (hm12.out.over hb13)
  have hv13 := hide (hv12.out.over hb13)
  have e1 := HFJ.out
  clear x0 x1 y0 y1 hj12 hu12 hm12 hv12 hb13 KI hB hs12
  obtain ⟨x0, x1, -⟩ := hm13.out
  obtain ⟨y0, y1, -⟩ := hv13.out
  go_wp2_with fail
  refine (KI2.out _ _ _ hm13.out.2.2 hv13.out.2.2).mono ?_
  rintro e w14 ⟨rfl, hb14⟩
  have hB14 := hB13.trans (hb14.mono hB13.size)
  have e2 := HFM.out
  clear x0 x1 y0 y1 hm13 hv13 hb14 KI2 hB13
  go_wp2_with fail
  go_ret
  exact ⟨by first | rfl | (simp; done) | (simp only [e2]; rfl), hB14⟩

set_option maxRecDepth 100000 in
set_option maxHeartbeats 8000000 in
theorem joins_k (m : Int) (v : Value) (gs : List (Int × Int)) (vl vk : Value) (l k : Lev) (w : World) (hv : IsGrants w v gs) (hl : LevAt w vl l) (hk : LevAt w vk k) (hE : chkErr m gs = 0) (hL : levErr m l = 0) (hK : levErr m k = 1) :
    Calls Try.prog 4 #[.agg #[.int .i64 m, v], vl, vk] w fun e w' => e = .returned (.bool true) ∧ Below w.heap.size w w' := by
  have hKF := fun (W : World) (hW : Below w.heap.size w W) => flowsOk m v gs vl vk l k W (isGrants_over hv hW) (levAt_over hl hW) (levAt_over hk hW)
  have hKJ := fun (W : World) (hW : Below w.heap.size w W) => joinOk m v gs vl vk l k W (isGrants_over hv hW) (levAt_over hl hW) (levAt_over hk hW)
  have hKM := fun (W : World) (hW : Below w.heap.size w W) => meetOk m v gs vl vk l k W (isGrants_over hv hW) (levAt_over hl hW) (levAt_over hk hW)
  have hKA := fun (W : World) (hW : Below w.heap.size w W) => refCheck_any m v gs W (isGrants_over hv hW)
  have hKl := fun (W : World) (hW : Below w.heap.size w W) => checkLevel_any m v vl l W (levAt_over hl hW)
  have hKk := fun (W : World) (hW : Below w.heap.size w W) => checkLevel_any m v vk k W (levAt_over hk hW)
  have hKR := fun (W : World) (hW : Below w.heap.size w W) => rightOk m v gs vl l W (isGrants_over hv hW) (levAt_over hl hW)
  obtain ⟨hX, hY⟩ := lTwo_k (l := l) (k := k) hE hL
  rw [hK] at hX
  rw [hX, if_neg (by decide)] at hKJ hKM
  rw [hX, decide_eq_false (by decide), Bool.false_and] at hKF
  rw [hY] at hKR
  rw [hE] at hKA
  rw [hL] at hKl
  rw [hK] at hKk
  have HFJ := hide (levelIs_self noLev noLev 1 (by simp))
  have HFM := hide (levelIs_self noLev noLev 1 (by simp))
  have HSJ := hide noLev_small
  have HSM := hide noLev_small
  clear hX hY hE hL hK
  have KI := hide fun (vl vm : Value) (W : World) (hl : LevAt W vl (noLev)) (hm : LevAt W vm (noLev)) => levelIs_any vl vm (noLev) (noLev) 1 1 W hl hm HSJ.out
  have KI2 := hide fun (vl vm : Value) (W : World) (hl : LevAt W vl (noLev)) (hm : LevAt W vm (noLev)) => levelIs_any vl vm (noLev) (noLev) 1 1 W hl hm HSM.out
  have KF := hide hKF
  have KJ := hide hKJ
  have KM := hide hKM
  have KA := hide hKA
  have Kl := hide hKl
  have Kk := hide hKk
  have KR := hide hKR
  obtain ⟨a1, k1, a2, k2, rfl⟩ := lev_form hl
  obtain ⟨a3, k3, a4, k4, rfl⟩ := lev_form hk
  obtain ⟨va, vn, vc, rfl⟩ := grants_form hv
  have hs0 : Hid ((((w.alloc (.cells #[.int .i64 m, .slice va vn vc] 24)).alloc (.cells #[.slice a1 l.r.length k1, .slice a2 l.w.length k2] 30)).alloc (.cells #[.slice a3 k.r.length k3, .slice a4 k.w.length k4] 30)).cell? ⟨w.heap.size, 0, none⟩ = some (.int .i64 m) ∧ (((w.alloc (.cells #[.int .i64 m, .slice va vn vc] 24)).alloc (.cells #[.slice a1 l.r.length k1, .slice a2 l.w.length k2] 30)).alloc (.cells #[.slice a3 k.r.length k3, .slice a4 k.w.length k4] 30)).cell? ⟨w.heap.size, 1, none⟩ = some (.slice va vn vc) ∧ (((w.alloc (.cells #[.int .i64 m, .slice va vn vc] 24)).alloc (.cells #[.slice a1 l.r.length k1, .slice a2 l.w.length k2] 30)).alloc (.cells #[.slice a3 k.r.length k3, .slice a4 k.w.length k4] 30)).cell? ⟨w.heap.size + 1, 0, none⟩ = some (.slice a1 l.r.length k1) ∧ (((w.alloc (.cells #[.int .i64 m, .slice va vn vc] 24)).alloc (.cells #[.slice a1 l.r.length k1, .slice a2 l.w.length k2] 30)).alloc (.cells #[.slice a3 k.r.length k3, .slice a4 k.w.length k4] 30)).cell? ⟨w.heap.size + 1, 1, none⟩ = some (.slice a2 l.w.length k2) ∧ (((w.alloc (.cells #[.int .i64 m, .slice va vn vc] 24)).alloc (.cells #[.slice a1 l.r.length k1, .slice a2 l.w.length k2] 30)).alloc (.cells #[.slice a3 k.r.length k3, .slice a4 k.w.length k4] 30)).cell? ⟨w.heap.size + 1 + 1, 0, none⟩ = some (.slice a3 k.r.length k3) ∧ (((w.alloc (.cells #[.int .i64 m, .slice va vn vc] 24)).alloc (.cells #[.slice a1 l.r.length k1, .slice a2 l.w.length k2] 30)).alloc (.cells #[.slice a3 k.r.length k3, .slice a4 k.w.length k4] 30)).cell? ⟨w.heap.size + 1 + 1, 1, none⟩ = some (.slice a4 k.w.length k4) ∧ Below w.heap.size w (((w.alloc (.cells #[.int .i64 m, .slice va vn vc] 24)).alloc (.cells #[.slice a1 l.r.length k1, .slice a2 l.w.length k2] 30)).alloc (.cells #[.slice a3 k.r.length k3, .slice a4 k.w.length k4] 30))) := ⟨by simp [go_sem], by simp [go_sem], by simp [go_sem], by simp [go_sem], by simp [go_sem], by simp [go_sem], (((Below.refl _ w).alloc (Nat.le_refl _) _).alloc (by simp) _).alloc (by simp; omega) _⟩
  clear hKF hKJ hKM hKA hKl hKk hKR hv hl hk
  have hB := hs0.out.2.2.2.2.2.2
  go_enter Try.func4, Try.ntmps4
  go_wp2_with fail
  refine (KF.out _ hB).mono ?_
  rintro e w1 ⟨rfl, hb1⟩
  clear hB
  have hs1 := hide (held6 hs0.out hb1)
  clear hs0 
  clear hb1 KF
  obtain ⟨c0, c1, c2, c3, c4, c5, hB⟩ := hs1.out
  go_wp2_with fail
  refine (KJ.out _ hB).mono ?_
  rintro e w2 ⟨vj, rfl, hjf, hb2⟩
  have hs2 := hide (held6 hs1.out hb2)
  clear hs1 
  clear c0 c1 c2 c3 c4 c5 hB
  have hja := levFresh_at hjf
  obtain ⟨a5, k5, a6, k6, rfl⟩ := lev_form hja
  have hal2 := (Below.refl _ w2).alloc (Nat.le_refl _) (.cells #[.slice a5 (noLev).r.length k5, .slice a6 (noLev).w.length k6] 30)
  have hj3 := hide (box_new hja)
  have hs3 := hide (held6 hs2.out hal2)
  clear hs2 
  clear hjf hja hb2 hal2 KJ
  obtain ⟨c0, c1, c2, c3, c4, c5, hB⟩ := hs3.out
  go_wp2_with fail
  refine (KM.out _ hB).mono ?_
  rintro e w4 ⟨vm, rfl, hmf, hb4⟩
  have hs4 := hide (held6 hs3.out hb4)
  have hj4 := hide (hj3.out.over hb4)
  clear hs3 hj3
  clear c0 c1 c2 c3 c4 c5 hB
  have hma := levFresh_at hmf
  obtain ⟨a7, k7, a8, k8, rfl⟩ := lev_form hma
  have hal4 := (Below.refl _ w4).alloc (Nat.le_refl _) (.cells #[.slice a7 (noLev).r.length k7, .slice a8 (noLev).w.length k8] 30)
  have hm5 := hide (box_new hma)
  have hs5 := hide (held6 hs4.out hal4)
  have hj5 := hide (hj4.out.over hal4)
  clear hs4 hj4
  clear hmf hma hb4 hal4 KM
  obtain ⟨c0, c1, c2, c3, c4, c5, hB⟩ := hs5.out
  go_wp2_with fail
  refine (KA.out _ hB).mono ?_
  rintro e w6 ⟨rfl, hb6⟩
  clear c0 c1 c2 c3 c4 c5 hB
  have hs6 := hide (held6 hs5.out hb6)
  have hj6 := hide (hj5.out.over hb6)
  have hm6 := hide (hm5.out.over hb6)
  clear hs5 hj5 hm5
  clear hb6 KA
  obtain ⟨c0, c1, c2, c3, c4, c5, hB⟩ := hs6.out
  go_wp2_with fail
  refine (Kl.out _ hB).mono ?_
  rintro e w7 ⟨rfl, hb7⟩
  clear c0 c1 c2 c3 c4 c5 hB
  have hs7 := hide (held6 hs6.out hb7)
  have hj7 := hide (hj6.out.over hb7)
  have hm7 := hide (hm6.out.over hb7)
  clear hs6 hj6 hm6
  clear hb7 Kl
  obtain ⟨c0, c1, c2, c3, c4, c5, hB⟩ := hs7.out
  go_wp2_with fail
  refine (Kk.out _ hB).mono ?_
  rintro e w8 ⟨rfl, hb8⟩
  clear c0 c1 c2 c3 c4 c5 hB
  have hs8 := hide (held6 hs7.out hb8)
  have hj8 := hide (hj7.out.over hb8)
  have hm8 := hide (hm7.out.over hb8)
  clear hs7 hj7 hm7
  clear hb8 Kk
  have al1 := (Below.refl _ w8).alloc (Nat.le_refl _) (.cells #[.slice none 0 0, .slice none 0 0] 30)
  have al2 := (Below.refl _ (w8.alloc (.cells #[.slice none 0 0, .slice none 0 0] 30))).alloc (Nat.le_refl _) (.cells #[.slice none 0 0, .slice none 0 0] 30)
  have al := al1.trans (al2.mono al1.size)
  have hu10 := hide ((box_new (noLev_at w8)).over al2)
  have hv10 := hide (box_new2 w8 (.cells #[.slice none 0 0, .slice none 0 0] 30))
  have hs10 := hide (held6 hs8.out al)
  have hj10 := hide (hj8.out.over al)
  have hm10 := hide (hm8.out.over al)
  clear hs8 hj8 hm8
  clear al1 al2 al
  go_wp2_with fail
  refine (begun_any _).mono ?_
  rintro e w11 ⟨rfl, hb11⟩
  have hs11 := hide (held6 hs10.out hb11)
  have hj11 := hide (hj10.out.over hb11)
  have hm11 := hide (hm10.out.over hb11)
  have hu11 := hide (hu10.out.over hb11)
  have hv11 := hide (hv10.out.over hb11)
  clear hs10 hj10 hm10 hu10 hv10
  clear hb11
  obtain ⟨c0, c1, c2, c3, c4, c5, hB⟩ := hs11.out
  go_wp2_with fail
  refine (KR.out _ hB).mono ?_
  rintro e w12 ⟨rfl, hb12⟩
  clear c0 c1 c2 c3 c4 c5 hB
  have hs12 := hide (held6 hs11.out hb12)
  have hj12 := hide (hj11.out.over hb12)
  have hm12 := hide (hm11.out.over hb12)
  have hu12 := hide (hu11.out.over hb12)
  have hv12 := hide (hv11.out.over hb12)
  clear hs11 hj11 hm11 hu11 hv11
  have hB := hs12.out.2.2.2.2.2.2
  obtain ⟨x0, x1, -⟩ := hj12.out
  obtain ⟨y0, y1, -⟩ := hu12.out
  clear hb12 KR
  go_wp2_with fail
  refine (KI.out _ _ _ hj12.out.2.2 hu12.out.2.2).mono ?_
  rintro e w13 ⟨rfl, hb13⟩
  have hB13 := hB.trans (hb13.mono hB.size)
  have hm13 := hide (hm12.out.over hb13)
  have hv13 := hide (hv12.out.over hb13)
  have e1 := HFJ.out
  clear x0 x1 y0 y1 hj12 hu12 hm12 hv12 hb13 KI hB hs12
  obtain ⟨x0, x1, -⟩ := hm13.out
  obtain ⟨y0, y1, -⟩ := hv13.out
  go_wp2_with fail
  refine (KI2.out _ _ _ hm13.out.2.2 hv13.out.2.2).mono ?_
  rintro e w14 ⟨rfl, hb14⟩
  have hB14 := hB13.trans (hb14.mono hB13.size)
  have e2 := HFM.out
  clear x0 x1 y0 y1 hm13 hv13 hb14 KI2 hB13
  go_wp2_with fail
  go_ret
  exact ⟨by first | rfl | (simp; done) | (simp only [e2]; rfl), hB14⟩
end Go.Proofs.Ytekgnjifopgboaa

/- veilworklaw.LabelOrder answers true, whatever it is handed: the walk. -/
import Derived.Test.YtekgnjifopgboaaOrdP
import Derived.Deep.CutRange
namespace Go.Proofs.Ytekgnjifopgboaa
open Go.RowKit
set_option linter.unusedVariables false
attribute [local go_sem ↓] Go.wp_at_zero Go.wp_at_succ

theorem held10 {wB W W' : World} {b0 o0 b1 o1 b2 o2 b3 o3 b4 o4 b5 o5 b6 o6 b7 o7 b8 o8 b9 o9 : Nat} {v0 v1 v2 v3 v4 v5 v6 v7 v8 v9 : Value} (h : W.cell? ⟨b0, o0, none⟩ = some v0 ∧ W.cell? ⟨b1, o1, none⟩ = some v1 ∧ W.cell? ⟨b2, o2, none⟩ = some v2 ∧ W.cell? ⟨b3, o3, none⟩ = some v3 ∧ W.cell? ⟨b4, o4, none⟩ = some v4 ∧ W.cell? ⟨b5, o5, none⟩ = some v5 ∧ W.cell? ⟨b6, o6, none⟩ = some v6 ∧ W.cell? ⟨b7, o7, none⟩ = some v7 ∧ W.cell? ⟨b8, o8, none⟩ = some v8 ∧ W.cell? ⟨b9, o9, none⟩ = some v9 ∧ Below wB.heap.size wB W) (hb : Below W.heap.size W W') : W'.cell? ⟨b0, o0, none⟩ = some v0 ∧ W'.cell? ⟨b1, o1, none⟩ = some v1 ∧ W'.cell? ⟨b2, o2, none⟩ = some v2 ∧ W'.cell? ⟨b3, o3, none⟩ = some v3 ∧ W'.cell? ⟨b4, o4, none⟩ = some v4 ∧ W'.cell? ⟨b5, o5, none⟩ = some v5 ∧ W'.cell? ⟨b6, o6, none⟩ = some v6 ∧ W'.cell? ⟨b7, o7, none⟩ = some v7 ∧ W'.cell? ⟨b8, o8, none⟩ = some v8 ∧ W'.cell? ⟨b9, o9, none⟩ = some v9 ∧ Below wB.heap.size wB W' := by
  obtain ⟨h0, h1, h2, h3, h4, h5, h6, h7, h8, h9, hB⟩ := h
  have up : ∀ b o v, W.cell? ⟨b, o, none⟩ = some v → W'.cell? ⟨b, o, none⟩ = some v := fun b o v h => by rw [(bcell hb).1 _ _ (World.block_lt_of_cell? W _ h)]; exact h
  exact ⟨up _ _ _ h0, up _ _ _ h1, up _ _ _ h2, up _ _ _ h3, up _ _ _ h4, up _ _ _ h5, up _ _ _ h6, up _ _ _ h7, up _ _ _ h8, up _ _ _ h9, hB.trans (hb.mono hB.size)⟩

set_option maxRecDepth 100000 in
set_option maxHeartbeats 16000000 in
theorem order_bad (m : Int) (v : Value) (gs : List (Int × Int)) (vl vk vq : Value) (l k q : Lev) (w : World) (hv : IsGrants w v gs) (hl : LevAt w vl l) (hk : LevAt w vk k) (hq : LevAt w vq q) (hE : lTwo m gs l k ≠ 0) :
    Calls Try.prog 5 #[.agg #[.int .i64 m, v], vl, vk, vq] w fun e w' => e = .returned (.bool true) ∧ Below w.heap.size w w' := by
  have hKJ := fun (W : World) (hW : Below w.heap.size w W) => joinOk m v gs vl vk l k W (isGrants_over hv hW) (levAt_over hl hW) (levAt_over hk hW)
  have hKM := fun (W : World) (hW : Below w.heap.size w W) => meetOk m v gs vl vk l k W (isGrants_over hv hW) (levAt_over hl hW) (levAt_over hk hW)
  have hKR := fun (W : World) (hW : Below w.heap.size w W) => rightOk m v gs vq q W (isGrants_over hv hW) (levAt_over hq hW)
  rw [if_neg hE] at hKJ hKM
  obtain ⟨r, hr⟩ : ∃ r, r = lTwo m gs l k := ⟨_, rfl⟩
  rw [← hr] at hE hKJ hKM
  have b1 : (r != 0) = true := by simpa using hE
  have b2 : (r != r) = false := by simp
  have KJ := hide hKJ
  have KM := hide hKM
  have KR := hide hKR
  obtain ⟨a1, k1, a2, k2, rfl⟩ := lev_form hl
  obtain ⟨a3, k3, a4, k4, rfl⟩ := lev_form hk
  obtain ⟨a5, k5, a6, k6, rfl⟩ := lev_form hq
  obtain ⟨va, vn, vc, rfl⟩ := grants_form hv
  have hs0 : Hid (((((w.alloc (.cells #[.int .i64 m, .slice va vn vc] 24)).alloc (.cells #[.slice a1 l.r.length k1, .slice a2 l.w.length k2] 30)).alloc (.cells #[.slice a3 k.r.length k3, .slice a4 k.w.length k4] 30)).alloc (.cells #[.slice a5 q.r.length k5, .slice a6 q.w.length k6] 30)).cell? ⟨w.heap.size, 0, none⟩ = some (.int .i64 m) ∧ ((((w.alloc (.cells #[.int .i64 m, .slice va vn vc] 24)).alloc (.cells #[.slice a1 l.r.length k1, .slice a2 l.w.length k2] 30)).alloc (.cells #[.slice a3 k.r.length k3, .slice a4 k.w.length k4] 30)).alloc (.cells #[.slice a5 q.r.length k5, .slice a6 q.w.length k6] 30)).cell? ⟨w.heap.size, 1, none⟩ = some (.slice va vn vc) ∧ ((((w.alloc (.cells #[.int .i64 m, .slice va vn vc] 24)).alloc (.cells #[.slice a1 l.r.length k1, .slice a2 l.w.length k2] 30)).alloc (.cells #[.slice a3 k.r.length k3, .slice a4 k.w.length k4] 30)).alloc (.cells #[.slice a5 q.r.length k5, .slice a6 q.w.length k6] 30)).cell? ⟨w.heap.size + 1, 0, none⟩ = some (.slice a1 l.r.length k1) ∧ ((((w.alloc (.cells #[.int .i64 m, .slice va vn vc] 24)).alloc (.cells #[.slice a1 l.r.length k1, .slice a2 l.w.length k2] 30)).alloc (.cells #[.slice a3 k.r.length k3, .slice a4 k.w.length k4] 30)).alloc (.cells #[.slice a5 q.r.length k5, .slice a6 q.w.length k6] 30)).cell? ⟨w.heap.size + 1, 1, none⟩ = some (.slice a2 l.w.length k2) ∧ ((((w.alloc (.cells #[.int .i64 m, .slice va vn vc] 24)).alloc (.cells #[.slice a1 l.r.length k1, .slice a2 l.w.length k2] 30)).alloc (.cells #[.slice a3 k.r.length k3, .slice a4 k.w.length k4] 30)).alloc (.cells #[.slice a5 q.r.length k5, .slice a6 q.w.length k6] 30)).cell? ⟨w.heap.size + 1 + 1, 0, none⟩ = some (.slice a3 k.r.length k3) ∧ ((((w.alloc (.cells #[.int .i64 m, .slice va vn vc] 24)).alloc (.cells #[.slice a1 l.r.length k1, .slice a2 l.w.length k2] 30)).alloc (.cells #[.slice a3 k.r.length k3, .slice a4 k.w.length k4] 30)).alloc (.cells #[.slice a5 q.r.length k5, .slice a6 q.w.length k6] 30)).cell? ⟨w.heap.size + 1 + 1, 1, none⟩ = some (.slice a4 k.w.length k4) ∧ ((((w.alloc (.cells #[.int .i64 m, .slice va vn vc] 24)).alloc (.cells #[.slice a1 l.r.length k1, .slice a2 l.w.length k2] 30)).alloc (.cells #[.slice a3 k.r.length k3, .slice a4 k.w.length k4] 30)).alloc (.cells #[.slice a5 q.r.length k5, .slice a6 q.w.length k6] 30)).cell? ⟨w.heap.size + 1 + 1 + 1, 0, none⟩ = some (.slice a5 q.r.length k5) ∧ ((((w.alloc (.cells #[.int .i64 m, .slice va vn vc] 24)).alloc (.cells #[.slice a1 l.r.length k1, .slice a2 l.w.length k2] 30)).alloc (.cells #[.slice a3 k.r.length k3, .slice a4 k.w.length k4] 30)).alloc (.cells #[.slice a5 q.r.length k5, .slice a6 q.w.length k6] 30)).cell? ⟨w.heap.size + 1 + 1 + 1, 1, none⟩ = some (.slice a6 q.w.length k6) ∧ Below w.heap.size w ((((w.alloc (.cells #[.int .i64 m, .slice va vn vc] 24)).alloc (.cells #[.slice a1 l.r.length k1, .slice a2 l.w.length k2] 30)).alloc (.cells #[.slice a3 k.r.length k3, .slice a4 k.w.length k4] 30)).alloc (.cells #[.slice a5 q.r.length k5, .slice a6 q.w.length k6] 30))) := ⟨by simp [go_sem], by simp [go_sem], by simp [go_sem], by simp [go_sem], by simp [go_sem], by simp [go_sem], by simp [go_sem], by simp [go_sem], ((((Below.refl _ w).alloc (Nat.le_refl _) _).alloc (by simp) _).alloc (by simp; omega) _).alloc (by simp; omega) _⟩
  clear hr hKJ hKM hKR hv hl hk hq hE KR
  have hB := hs0.out.2.2.2.2.2.2.2.2
  go_enter Try.func5, Try.ntmps5
  go_wp2_with fail
  refine (KJ.out _ hB).mono ?_
  rintro e w2 ⟨vj, rfl, hjf, hb2⟩
  clear hB
  have hs2 := hide (held8 hs0.out hb2)
  clear hs0 
  have hja := levFresh_at hjf
  obtain ⟨a7, k7, a8, k8, rfl⟩ := lev_form hja
  have hal2 := (Below.refl _ w2).alloc (Nat.le_refl _) (.cells #[.slice a7 (noLev).r.length k7, .slice a8 (noLev).w.length k8] 30)
  have hj3 := hide (box_new hja)
  have hs3 := hide (held8 hs2.out hal2)
  clear hs2 
  clear hjf hja hb2 hal2 KJ
  obtain ⟨c0, c1, c2, c3, c4, c5, c6, c7, hB⟩ := hs3.out
  go_wp2_with fail
  refine (KM.out _ hB).mono ?_
  rintro e w4 ⟨vm, rfl, hmf, hb4⟩
  have hs4 := hide (held8 hs3.out hb4)
  have hj4 := hide (hj3.out.over hb4)
  clear hs3 hj3
  clear c0 c1 c2 c3 c4 c5 c6 c7 hB
  have hma := levFresh_at hmf
  obtain ⟨a9, k9, a10, k10, rfl⟩ := lev_form hma
  have hal4 := (Below.refl _ w4).alloc (Nat.le_refl _) (.cells #[.slice a9 (noLev).r.length k9, .slice a10 (noLev).w.length k10] 30)
  have hm5 := hide (box_new hma)
  have hs5 := hide (held8 hs4.out hal4)
  have hj5 := hide (hj4.out.over hal4)
  clear hs4 hj4
  clear hmf hma hb4 hal4 KM
  go_wp2_with fail
  refine (begun_any _).mono ?_
  rintro e w6 ⟨rfl, hb6⟩
  have hs6 := hide (held8 hs5.out hb6)
  have hj6 := hide (hj5.out.over hb6)
  have hm6 := hide (hm5.out.over hb6)
  clear hs5 hj5 hm5
  clear hb6
  have hB := hs6.out.2.2.2.2.2.2.2.2
  clear hs6 hj6 hm6
  go_wp2_with fail
  go_ret
  exact ⟨rfl, hB⟩

set_option maxRecDepth 100000 in
set_option maxHeartbeats 16000000 in
theorem order_q (m : Int) (v : Value) (gs : List (Int × Int)) (vl vk vq : Value) (l k q : Lev) (w : World) (hv : IsGrants w v gs) (hl : LevAt w vl l) (hk : LevAt w vk k) (hq : LevAt w vq q) (hE : lTwo m gs l k = 0) (hQ : lRight m gs q ≠ 0) :
    Calls Try.prog 5 #[.agg #[.int .i64 m, v], vl, vk, vq] w fun e w' => e = .returned (.bool true) ∧ Below w.heap.size w w' := by
  have hKJ := fun (W : World) (hW : Below w.heap.size w W) => joinOk m v gs vl vk l k W (isGrants_over hv hW) (levAt_over hl hW) (levAt_over hk hW)
  have hKM := fun (W : World) (hW : Below w.heap.size w W) => meetOk m v gs vl vk l k W (isGrants_over hv hW) (levAt_over hl hW) (levAt_over hk hW)
  have hKR := fun (W : World) (hW : Below w.heap.size w W) => rightOk m v gs vq q W (isGrants_over hv hW) (levAt_over hq hW)
  obtain ⟨n, rfl, h1, h6, hln, hkn, hch⟩ := lTwo_ok hE
  rw [hE, if_pos rfl] at hKJ hKM
  simp only [Int.toNat_natCast] at hKJ hKM
  obtain ⟨r, hr⟩ : ∃ r, r = lRight n gs q := ⟨_, rfl⟩
  rw [← hr] at hQ hKR
  have b1 : (r != 0) = true := by simpa using hQ
  have KJ := hide hKJ
  have KM := hide hKM
  have KR := hide hKR
  obtain ⟨a1, k1, a2, k2, rfl⟩ := lev_form hl
  obtain ⟨a3, k3, a4, k4, rfl⟩ := lev_form hk
  obtain ⟨a5, k5, a6, k6, rfl⟩ := lev_form hq
  obtain ⟨va, vn, vc, rfl⟩ := grants_form hv
  have hs0 : Hid (((((w.alloc (.cells #[.int .i64 n, .slice va vn vc] 24)).alloc (.cells #[.slice a1 l.r.length k1, .slice a2 l.w.length k2] 30)).alloc (.cells #[.slice a3 k.r.length k3, .slice a4 k.w.length k4] 30)).alloc (.cells #[.slice a5 q.r.length k5, .slice a6 q.w.length k6] 30)).cell? ⟨w.heap.size, 0, none⟩ = some (.int .i64 n) ∧ ((((w.alloc (.cells #[.int .i64 n, .slice va vn vc] 24)).alloc (.cells #[.slice a1 l.r.length k1, .slice a2 l.w.length k2] 30)).alloc (.cells #[.slice a3 k.r.length k3, .slice a4 k.w.length k4] 30)).alloc (.cells #[.slice a5 q.r.length k5, .slice a6 q.w.length k6] 30)).cell? ⟨w.heap.size, 1, none⟩ = some (.slice va vn vc) ∧ ((((w.alloc (.cells #[.int .i64 n, .slice va vn vc] 24)).alloc (.cells #[.slice a1 l.r.length k1, .slice a2 l.w.length k2] 30)).alloc (.cells #[.slice a3 k.r.length k3, .slice a4 k.w.length k4] 30)).alloc (.cells #[.slice a5 q.r.length k5, .slice a6 q.w.length k6] 30)).cell? ⟨w.heap.size + 1, 0, none⟩ = some (.slice a1 l.r.length k1) ∧ ((((w.alloc (.cells #[.int .i64 n, .slice va vn vc] 24)).alloc (.cells #[.slice a1 l.r.length k1, .slice a2 l.w.length k2] 30)).alloc (.cells #[.slice a3 k.r.length k3, .slice a4 k.w.length k4] 30)).alloc (.cells #[.slice a5 q.r.length k5, .slice a6 q.w.length k6] 30)).cell? ⟨w.heap.size + 1, 1, none⟩ = some (.slice a2 l.w.length k2) ∧ ((((w.alloc (.cells #[.int .i64 n, .slice va vn vc] 24)).alloc (.cells #[.slice a1 l.r.length k1, .slice a2 l.w.length k2] 30)).alloc (.cells #[.slice a3 k.r.length k3, .slice a4 k.w.length k4] 30)).alloc (.cells #[.slice a5 q.r.length k5, .slice a6 q.w.length k6] 30)).cell? ⟨w.heap.size + 1 + 1, 0, none⟩ = some (.slice a3 k.r.length k3) ∧ ((((w.alloc (.cells #[.int .i64 n, .slice va vn vc] 24)).alloc (.cells #[.slice a1 l.r.length k1, .slice a2 l.w.length k2] 30)).alloc (.cells #[.slice a3 k.r.length k3, .slice a4 k.w.length k4] 30)).alloc (.cells #[.slice a5 q.r.length k5, .slice a6 q.w.length k6] 30)).cell? ⟨w.heap.size + 1 + 1, 1, none⟩ = some (.slice a4 k.w.length k4) ∧ ((((w.alloc (.cells #[.int .i64 n, .slice va vn vc] 24)).alloc (.cells #[.slice a1 l.r.length k1, .slice a2 l.w.length k2] 30)).alloc (.cells #[.slice a3 k.r.length k3, .slice a4 k.w.length k4] 30)).alloc (.cells #[.slice a5 q.r.length k5, .slice a6 q.w.length k6] 30)).cell? ⟨w.heap.size + 1 + 1 + 1, 0, none⟩ = some (.slice a5 q.r.length k5) ∧ ((((w.alloc (.cells #[.int .i64 n, .slice va vn vc] 24)).alloc (.cells #[.slice a1 l.r.length k1, .slice a2 l.w.length k2] 30)).alloc (.cells #[.slice a3 k.r.length k3, .slice a4 k.w.length k4] 30)).alloc (.cells #[.slice a5 q.r.length k5, .slice a6 q.w.length k6] 30)).cell? ⟨w.heap.size + 1 + 1 + 1, 1, none⟩ = some (.slice a6 q.w.length k6) ∧ Below w.heap.size w ((((w.alloc (.cells #[.int .i64 n, .slice va vn vc] 24)).alloc (.cells #[.slice a1 l.r.length k1, .slice a2 l.w.length k2] 30)).alloc (.cells #[.slice a3 k.r.length k3, .slice a4 k.w.length k4] 30)).alloc (.cells #[.slice a5 q.r.length k5, .slice a6 q.w.length k6] 30))) := ⟨by simp [go_sem], by simp [go_sem], by simp [go_sem], by simp [go_sem], by simp [go_sem], by simp [go_sem], by simp [go_sem], by simp [go_sem], ((((Below.refl _ w).alloc (Nat.le_refl _) _).alloc (by simp) _).alloc (by simp; omega) _).alloc (by simp; omega) _⟩
  clear hr hKJ hKM hKR hv hl hk hq hE hQ
  have hB := hs0.out.2.2.2.2.2.2.2.2
  go_enter Try.func5, Try.ntmps5
  go_wp2_with fail
  refine (KJ.out _ hB).mono ?_
  rintro e w2 ⟨vj, rfl, hjf, hb2⟩
  clear hB
  have hs2 := hide (held8 hs0.out hb2)
  clear hs0 
  have hja := levFresh_at hjf
  obtain ⟨a7, k7, a8, k8, rfl⟩ := lev_form hja
  have hal2 := (Below.refl _ w2).alloc (Nat.le_refl _) (.cells #[.slice a7 (joinL l k n).r.length k7, .slice a8 (joinL l k n).w.length k8] 30)
  have hj3 := hide (box_new hja)
  have hs3 := hide (held8 hs2.out hal2)
  clear hs2 
  clear hjf hja hb2 hal2 KJ
  obtain ⟨c0, c1, c2, c3, c4, c5, c6, c7, hB⟩ := hs3.out
  go_wp2_with fail
  refine (KM.out _ hB).mono ?_
  rintro e w4 ⟨vm, rfl, hmf, hb4⟩
  have hs4 := hide (held8 hs3.out hb4)
  have hj4 := hide (hj3.out.over hb4)
  clear hs3 hj3
  clear c0 c1 c2 c3 c4 c5 c6 c7 hB
  have hma := levFresh_at hmf
  obtain ⟨a9, k9, a10, k10, rfl⟩ := lev_form hma
  have hal4 := (Below.refl _ w4).alloc (Nat.le_refl _) (.cells #[.slice a9 (meetL l k n).r.length k9, .slice a10 (meetL l k n).w.length k10] 30)
  have hm5 := hide (box_new hma)
  have hs5 := hide (held8 hs4.out hal4)
  have hj5 := hide (hj4.out.over hal4)
  clear hs4 hj4
  clear hmf hma hb4 hal4 KM
  go_wp2_with fail
  refine (begun_any _).mono ?_
  rintro e w6 ⟨rfl, hb6⟩
  have hs6 := hide (held8 hs5.out hb6)
  have hj6 := hide (hj5.out.over hb6)
  have hm6 := hide (hm5.out.over hb6)
  clear hs5 hj5 hm5
  clear hb6
  obtain ⟨c0, c1, c2, c3, c4, c5, c6, c7, hB⟩ := hs6.out
  go_wp2_with fail
  refine (KR.out _ hB).mono ?_
  rintro e w7 ⟨rfl, hb7⟩
  have hB7 := hB.trans (hb7.mono hB.size)
  clear hs6 hj6 hm6 hb7 c0 c1 c2 c3 c4 c5 c6 c7 hB KR
  go_wp2_with fail
  go_ret
  exact ⟨rfl, hB7⟩
end Go.Proofs.Ytekgnjifopgboaa

/- veilworklaw.LabelOrder answers true, whatever it is handed: levels that are right, by whether the first flows to the last, and back. -/
import Derived.Test.YtekgnjifopgboaaOrderA
import Derived.Deep.RegionHeld3
namespace Go.Proofs.Ytekgnjifopgboaa
open Go.RowKit
set_option linter.unusedVariables false
attribute [local go_sem ↓] Go.wp_at_zero Go.wp_at_succ

set_option maxRecDepth 100000 in
set_option maxHeartbeats 16000000 in
theorem order_true_false (m : Int) (v : Value) (gs : List (Int × Int)) (vl vk vq : Value) (l k q : Lev) (w : World) (hv : IsGrants w v gs) (hl : LevAt w vl l) (hk : LevAt w vk k) (hq : LevAt w vq q) (hE : lTwo m gs l k = 0) (hQ : lRight m gs q = 0) (hsm : l.small) (hF : flowsB l q m.toNat = true) (hG : flowsB q l m.toNat = false) :
    Calls Try.prog 5 #[.agg #[.int .i64 m, v], vl, vk, vq] w fun e w' => e = .returned (.bool true) ∧ Below w.heap.size w w' := by
  have hKJ := fun (W : World) (hW : Below w.heap.size w W) => joinOk m v gs vl vk l k W (isGrants_over hv hW) (levAt_over hl hW) (levAt_over hk hW)
  have hKM := fun (W : World) (hW : Below w.heap.size w W) => meetOk m v gs vl vk l k W (isGrants_over hv hW) (levAt_over hl hW) (levAt_over hk hW)
  have hKR := fun (W : World) (hW : Below w.heap.size w W) => rightOk m v gs vq q W (isGrants_over hv hW) (levAt_over hq hW)
  obtain ⟨n, rfl, h1, h6, hln, hkn, hch⟩ := lTwo_ok hE
  rw [hE, if_pos rfl] at hKJ hKM
  simp only [Int.toNat_natCast] at hKJ hKM
  simp only [Int.toNat_natCast] at hF hG
  rw [hQ] at hKR
  have hqn : q.len n := by
    unfold lRight at hQ
    rw [if_pos hch] at hQ
    rcases levErr_cases n q with ⟨_, g1, g2⟩ | ⟨g, _⟩
    · exact ⟨by omega, by omega⟩
    · rw [g] at hQ; cases hQ
  have HV := hide hv
  have HL := hide hl
  have HK := hide hk
  have HQ := hide hq
  have HF := hide hF
  have HG := hide hG
  have hSL := fun (W : World) (hW : Below w.heap.size w W) => sameLevel_any vl vk l k W (levAt_over hl hW) (levAt_over hk hW) hsm
  have KJ := hide hKJ
  have KM := hide hKM
  have KR := hide hKR
  obtain ⟨a1, k1, a2, k2, rfl⟩ := lev_form hl
  obtain ⟨a3, k3, a4, k4, rfl⟩ := lev_form hk
  obtain ⟨a5, k5, a6, k6, rfl⟩ := lev_form hq
  obtain ⟨va, vn, vc, rfl⟩ := grants_form hv
  have hs0 : Hid (((((w.alloc (.cells #[.int .i64 n, .slice va vn vc] 24)).alloc (.cells #[.slice a1 l.r.length k1, .slice a2 l.w.length k2] 30)).alloc (.cells #[.slice a3 k.r.length k3, .slice a4 k.w.length k4] 30)).alloc (.cells #[.slice a5 q.r.length k5, .slice a6 q.w.length k6] 30)).cell? ⟨w.heap.size, 0, none⟩ = some (.int .i64 n) ∧ ((((w.alloc (.cells #[.int .i64 n, .slice va vn vc] 24)).alloc (.cells #[.slice a1 l.r.length k1, .slice a2 l.w.length k2] 30)).alloc (.cells #[.slice a3 k.r.length k3, .slice a4 k.w.length k4] 30)).alloc (.cells #[.slice a5 q.r.length k5, .slice a6 q.w.length k6] 30)).cell? ⟨w.heap.size, 1, none⟩ = some (.slice va vn vc) ∧ ((((w.alloc (.cells #[.int .i64 n, .slice va vn vc] 24)).alloc (.cells #[.slice a1 l.r.length k1, .slice a2 l.w.length k2] 30)).alloc (.cells #[.slice a3 k.r.length k3, .slice a4 k.w.length k4] 30)).alloc (.cells #[.slice a5 q.r.length k5, .slice a6 q.w.length k6] 30)).cell? ⟨w.heap.size + 1, 0, none⟩ = some (.slice a1 l.r.length k1) ∧ ((((w.alloc (.cells #[.int .i64 n, .slice va vn vc] 24)).alloc (.cells #[.slice a1 l.r.length k1, .slice a2 l.w.length k2] 30)).alloc (.cells #[.slice a3 k.r.length k3, .slice a4 k.w.length k4] 30)).alloc (.cells #[.slice a5 q.r.length k5, .slice a6 q.w.length k6] 30)).cell? ⟨w.heap.size + 1, 1, none⟩ = some (.slice a2 l.w.length k2) ∧ ((((w.alloc (.cells #[.int .i64 n, .slice va vn vc] 24)).alloc (.cells #[.slice a1 l.r.length k1, .slice a2 l.w.length k2] 30)).alloc (.cells #[.slice a3 k.r.length k3, .slice a4 k.w.length k4] 30)).alloc (.cells #[.slice a5 q.r.length k5, .slice a6 q.w.length k6] 30)).cell? ⟨w.heap.size + 1 + 1, 0, none⟩ = some (.slice a3 k.r.length k3) ∧ ((((w.alloc (.cells #[.int .i64 n, .slice va vn vc] 24)).alloc (.cells #[.slice a1 l.r.length k1, .slice a2 l.w.length k2] 30)).alloc (.cells #[.slice a3 k.r.length k3, .slice a4 k.w.length k4] 30)).alloc (.cells #[.slice a5 q.r.length k5, .slice a6 q.w.length k6] 30)).cell? ⟨w.heap.size + 1 + 1, 1, none⟩ = some (.slice a4 k.w.length k4) ∧ ((((w.alloc (.cells #[.int .i64 n, .slice va vn vc] 24)).alloc (.cells #[.slice a1 l.r.length k1, .slice a2 l.w.length k2] 30)).alloc (.cells #[.slice a3 k.r.length k3, .slice a4 k.w.length k4] 30)).alloc (.cells #[.slice a5 q.r.length k5, .slice a6 q.w.length k6] 30)).cell? ⟨w.heap.size + 1 + 1 + 1, 0, none⟩ = some (.slice a5 q.r.length k5) ∧ ((((w.alloc (.cells #[.int .i64 n, .slice va vn vc] 24)).alloc (.cells #[.slice a1 l.r.length k1, .slice a2 l.w.length k2] 30)).alloc (.cells #[.slice a3 k.r.length k3, .slice a4 k.w.length k4] 30)).alloc (.cells #[.slice a5 q.r.length k5, .slice a6 q.w.length k6] 30)).cell? ⟨w.heap.size + 1 + 1 + 1, 1, none⟩ = some (.slice a6 q.w.length k6) ∧ Below w.heap.size w ((((w.alloc (.cells #[.int .i64 n, .slice va vn vc] 24)).alloc (.cells #[.slice a1 l.r.length k1, .slice a2 l.w.length k2] 30)).alloc (.cells #[.slice a3 k.r.length k3, .slice a4 k.w.length k4] 30)).alloc (.cells #[.slice a5 q.r.length k5, .slice a6 q.w.length k6] 30))) := ⟨by simp [go_sem], by simp [go_sem], by simp [go_sem], by simp [go_sem], by simp [go_sem], by simp [go_sem], by simp [go_sem], by simp [go_sem], ((((Below.refl _ w).alloc (Nat.le_refl _) _).alloc (by simp) _).alloc (by simp; omega) _).alloc (by simp; omega) _⟩
  have SL := hide hSL
  clear hKJ hKM hKR hv hl hk hq hE hQ hSL hF hG
  have hB := hs0.out.2.2.2.2.2.2.2.2
  go_enter Try.func5, Try.ntmps5
  go_wp2_with fail
  refine (KJ.out _ hB).mono ?_
  rintro e w2 ⟨vj, rfl, hjf, hb2⟩
  clear hB
  have hs2 := hide (held8 hs0.out hb2)
  clear hs0 
  have hja := levFresh_at hjf
  obtain ⟨a7, k7, a8, k8, rfl⟩ := lev_form hja
  have hal2 := (Below.refl _ w2).alloc (Nat.le_refl _) (.cells #[.slice a7 (joinL l k n).r.length k7, .slice a8 (joinL l k n).w.length k8] 30)
  have hj3 := hide (box_new hja)
  have hs3 := hide (held8 hs2.out hal2)
  clear hs2 
  clear hjf hja hb2 hal2 KJ
  obtain ⟨c0, c1, c2, c3, c4, c5, c6, c7, hB⟩ := hs3.out
  go_wp2_with fail
  refine (KM.out _ hB).mono ?_
  rintro e w4 ⟨vm, rfl, hmf, hb4⟩
  have hs4 := hide (held8 hs3.out hb4)
  have hj4 := hide (hj3.out.over hb4)
  clear hs3 hj3
  clear c0 c1 c2 c3 c4 c5 c6 c7 hB
  have hma := levFresh_at hmf
  obtain ⟨a9, k9, a10, k10, rfl⟩ := lev_form hma
  have hal4 := (Below.refl _ w4).alloc (Nat.le_refl _) (.cells #[.slice a9 (meetL l k n).r.length k9, .slice a10 (meetL l k n).w.length k10] 30)
  have hm5 := hide (box_new hma)
  have hs5 := hide (held8 hs4.out hal4)
  have hj5 := hide (hj4.out.over hal4)
  clear hs4 hj4
  clear hmf hma hb4 hal4 KM
  go_wp2_with fail
  refine (begun_any _).mono ?_
  rintro e w6 ⟨rfl, hb6⟩
  have hs6 := hide (held8 hs5.out hb6)
  have hj6 := hide (hj5.out.over hb6)
  have hm6 := hide (hm5.out.over hb6)
  clear hs5 hj5 hm5
  clear hb6
  obtain ⟨c0, c1, c2, c3, c4, c5, c6, c7, hB⟩ := hs6.out
  go_wp2_with fail
  refine (KR.out _ hB).mono ?_
  rintro e w7 ⟨rfl, hb7⟩
  clear c0 c1 c2 c3 c4 c5 c6 c7 hB
  have hs7 := hide (held8 hs6.out hb7)
  have hj7 := hide (hj6.out.over hb7)
  have hm7 := hide (hm6.out.over hb7)
  clear hs6 hj6 hm6
  obtain ⟨c0, c1, c2, c3, c4, c5, c6, c7, hB7⟩ := hs7.out
  have C0 := hide c0
  have C1 := hide c1
  have ht0 : Hid (w7.cell? ⟨w.heap.size + 1, 0, none⟩ = some (.slice a1 l.r.length k1) ∧ w7.cell? ⟨w.heap.size + 1, 1, none⟩ = some (.slice a2 l.w.length k2) ∧ w7.cell? ⟨w.heap.size + 1 + 1, 0, none⟩ = some (.slice a3 k.r.length k3) ∧ w7.cell? ⟨w.heap.size + 1 + 1, 1, none⟩ = some (.slice a4 k.w.length k4) ∧ w7.cell? ⟨w.heap.size + 1 + 1 + 1, 0, none⟩ = some (.slice a5 q.r.length k5) ∧ w7.cell? ⟨w.heap.size + 1 + 1 + 1, 1, none⟩ = some (.slice a6 q.w.length k6) ∧ w7.cell? ⟨w2.heap.size, 0, none⟩ = some (.slice a7 (joinL l k n).r.length k7) ∧ w7.cell? ⟨w2.heap.size, 1, none⟩ = some (.slice a8 (joinL l k n).w.length k8) ∧ w7.cell? ⟨w4.heap.size, 0, none⟩ = some (.slice a9 (meetL l k n).r.length k9) ∧ w7.cell? ⟨w4.heap.size, 1, none⟩ = some (.slice a10 (meetL l k n).w.length k10) ∧ Below w7.heap.size w7 w7) := ⟨c2, c3, c4, c5, c6, c7, hj7.out.1, hj7.out.2.1, hm7.out.1, hm7.out.2.1, Below.refl _ _⟩
  have UP := hide fun (W : World) (hW : Below w7.heap.size w7 W) (b o : Nat) (v : Value) (h : w7.cell? ⟨b, o, none⟩ = some v) => (by rw [(bcell hW).1 _ _ (World.block_lt_of_cell? w7 _ h)]; exact h : W.cell? ⟨b, o, none⟩ = some v)
  obtain ⟨f1, hf1⟩ : ∃ f, f = flowsB l k n := ⟨_, rfl⟩
  obtain ⟨f2, hf2⟩ : ∃ f, f = flowsB k q n := ⟨_, rfl⟩
  obtain ⟨f3, hf3⟩ : ∃ f, f = flowsB l q n := ⟨_, rfl⟩
  obtain ⟨f4, hf4⟩ : ∃ f, f = flowsB k l n := ⟨_, rfl⟩
  obtain ⟨g2, hg2⟩ : ∃ f, f = flowsB q l n := ⟨_, rfl⟩
  obtain ⟨g3, hg3⟩ : ∃ f, f = flowsB q k n := ⟨_, rfl⟩
  have hLL := fun (W : World) (hW : Below w7.heap.size w7 W) => ask_any w.heap.size n (.slice va vn vc) gs (.agg #[.slice a1 l.r.length k1, .slice a2 l.w.length k2]) (.agg #[.slice a1 l.r.length k1, .slice a2 l.w.length k2]) (l) (l) W (UP.out W hW _ _ _ C0.out) (UP.out W hW _ _ _ C1.out) (isGrants_over HV.out (hB7.trans (hW.mono hB7.size))) ((levAt_over HL.out (hB7.trans (hW.mono hB7.size)))) ((levAt_over HL.out (hB7.trans (hW.mono hB7.size)))) hch (hln) (hln)
  rw [flows_refl] at hLL
  have KLL := hide hLL
  clear hLL
  have hLJ := fun (W : World) (hW : Below w7.heap.size w7 W) => ask_any w.heap.size n (.slice va vn vc) gs (.agg #[.slice a1 l.r.length k1, .slice a2 l.w.length k2]) (.agg #[.slice a7 (joinL l k n).r.length k7, .slice a8 (joinL l k n).w.length k8]) (l) (joinL l k n) W (UP.out W hW _ _ _ C0.out) (UP.out W hW _ _ _ C1.out) (isGrants_over HV.out (hB7.trans (hW.mono hB7.size))) ((levAt_over HL.out (hB7.trans (hW.mono hB7.size)))) ((levAt_over hj7.out.2.2 hW)) hch (hln) ((joinL_isLen l k n).1)
  rw [(join_up l k n).1] at hLJ
  have KLJ := hide hLJ
  clear hLJ
  have hKJ := fun (W : World) (hW : Below w7.heap.size w7 W) => ask_any w.heap.size n (.slice va vn vc) gs (.agg #[.slice a3 k.r.length k3, .slice a4 k.w.length k4]) (.agg #[.slice a7 (joinL l k n).r.length k7, .slice a8 (joinL l k n).w.length k8]) (k) (joinL l k n) W (UP.out W hW _ _ _ C0.out) (UP.out W hW _ _ _ C1.out) (isGrants_over HV.out (hB7.trans (hW.mono hB7.size))) ((levAt_over HK.out (hB7.trans (hW.mono hB7.size)))) ((levAt_over hj7.out.2.2 hW)) hch (hkn) ((joinL_isLen l k n).1)
  rw [(join_up l k n).2] at hKJ
  have KKJ := hide hKJ
  clear hKJ
  have hML := fun (W : World) (hW : Below w7.heap.size w7 W) => ask_any w.heap.size n (.slice va vn vc) gs (.agg #[.slice a9 (meetL l k n).r.length k9, .slice a10 (meetL l k n).w.length k10]) (.agg #[.slice a1 l.r.length k1, .slice a2 l.w.length k2]) (meetL l k n) (l) W (UP.out W hW _ _ _ C0.out) (UP.out W hW _ _ _ C1.out) (isGrants_over HV.out (hB7.trans (hW.mono hB7.size))) ((levAt_over hm7.out.2.2 hW)) ((levAt_over HL.out (hB7.trans (hW.mono hB7.size)))) hch ((joinL_isLen l k n).2) (hln)
  rw [(meet_down l k n).1] at hML
  have KML := hide hML
  clear hML
  have hMK := fun (W : World) (hW : Below w7.heap.size w7 W) => ask_any w.heap.size n (.slice va vn vc) gs (.agg #[.slice a9 (meetL l k n).r.length k9, .slice a10 (meetL l k n).w.length k10]) (.agg #[.slice a3 k.r.length k3, .slice a4 k.w.length k4]) (meetL l k n) (k) W (UP.out W hW _ _ _ C0.out) (UP.out W hW _ _ _ C1.out) (isGrants_over HV.out (hB7.trans (hW.mono hB7.size))) ((levAt_over hm7.out.2.2 hW)) ((levAt_over HK.out (hB7.trans (hW.mono hB7.size)))) hch ((joinL_isLen l k n).2) (hkn)
  rw [(meet_down l k n).2] at hMK
  have KMK := hide hMK
  clear hMK
  have hLK := fun (W : World) (hW : Below w7.heap.size w7 W) => ask_any w.heap.size n (.slice va vn vc) gs (.agg #[.slice a1 l.r.length k1, .slice a2 l.w.length k2]) (.agg #[.slice a3 k.r.length k3, .slice a4 k.w.length k4]) (l) (k) W (UP.out W hW _ _ _ C0.out) (UP.out W hW _ _ _ C1.out) (isGrants_over HV.out (hB7.trans (hW.mono hB7.size))) ((levAt_over HL.out (hB7.trans (hW.mono hB7.size)))) ((levAt_over HK.out (hB7.trans (hW.mono hB7.size)))) hch (hln) (hkn)
  rw [← hf1] at hLK
  have KLK := hide hLK
  clear hLK
  have hKQ := fun (W : World) (hW : Below w7.heap.size w7 W) => ask_any w.heap.size n (.slice va vn vc) gs (.agg #[.slice a3 k.r.length k3, .slice a4 k.w.length k4]) (.agg #[.slice a5 q.r.length k5, .slice a6 q.w.length k6]) (k) (q) W (UP.out W hW _ _ _ C0.out) (UP.out W hW _ _ _ C1.out) (isGrants_over HV.out (hB7.trans (hW.mono hB7.size))) ((levAt_over HK.out (hB7.trans (hW.mono hB7.size)))) ((levAt_over HQ.out (hB7.trans (hW.mono hB7.size)))) hch (hkn) (hqn)
  rw [← hf2] at hKQ
  have KKQ := hide hKQ
  clear hKQ
  have hLQ := fun (W : World) (hW : Below w7.heap.size w7 W) => ask_any w.heap.size n (.slice va vn vc) gs (.agg #[.slice a1 l.r.length k1, .slice a2 l.w.length k2]) (.agg #[.slice a5 q.r.length k5, .slice a6 q.w.length k6]) (l) (q) W (UP.out W hW _ _ _ C0.out) (UP.out W hW _ _ _ C1.out) (isGrants_over HV.out (hB7.trans (hW.mono hB7.size))) ((levAt_over HL.out (hB7.trans (hW.mono hB7.size)))) ((levAt_over HQ.out (hB7.trans (hW.mono hB7.size)))) hch (hln) (hqn)
  rw [← hf3] at hLQ
  have KLQ := hide hLQ
  clear hLQ
  have hKL := fun (W : World) (hW : Below w7.heap.size w7 W) => ask_any w.heap.size n (.slice va vn vc) gs (.agg #[.slice a3 k.r.length k3, .slice a4 k.w.length k4]) (.agg #[.slice a1 l.r.length k1, .slice a2 l.w.length k2]) (k) (l) W (UP.out W hW _ _ _ C0.out) (UP.out W hW _ _ _ C1.out) (isGrants_over HV.out (hB7.trans (hW.mono hB7.size))) ((levAt_over HK.out (hB7.trans (hW.mono hB7.size)))) ((levAt_over HL.out (hB7.trans (hW.mono hB7.size)))) hch (hkn) (hln)
  rw [← hf4] at hKL
  have KKL := hide hKL
  clear hKL
  have hQL := fun (W : World) (hW : Below w7.heap.size w7 W) => ask_any w.heap.size n (.slice va vn vc) gs (.agg #[.slice a5 q.r.length k5, .slice a6 q.w.length k6]) (.agg #[.slice a1 l.r.length k1, .slice a2 l.w.length k2]) (q) (l) W (UP.out W hW _ _ _ C0.out) (UP.out W hW _ _ _ C1.out) (isGrants_over HV.out (hB7.trans (hW.mono hB7.size))) ((levAt_over HQ.out (hB7.trans (hW.mono hB7.size)))) ((levAt_over HL.out (hB7.trans (hW.mono hB7.size)))) hch (hqn) (hln)
  rw [← hg2] at hQL
  have KQL := hide hQL
  clear hQL
  have hQK := fun (W : World) (hW : Below w7.heap.size w7 W) => ask_any w.heap.size n (.slice va vn vc) gs (.agg #[.slice a5 q.r.length k5, .slice a6 q.w.length k6]) (.agg #[.slice a3 k.r.length k3, .slice a4 k.w.length k4]) (q) (k) W (UP.out W hW _ _ _ C0.out) (UP.out W hW _ _ _ C1.out) (isGrants_over HV.out (hB7.trans (hW.mono hB7.size))) ((levAt_over HQ.out (hB7.trans (hW.mono hB7.size)))) ((levAt_over HK.out (hB7.trans (hW.mono hB7.size)))) hch (hqn) (hkn)
  rw [← hg3] at hQK
  have KQK := hide hQK
  clear hQK
  have hJQ := fun (W : World) (hW : Below w7.heap.size w7 W) => ask_any w.heap.size n (.slice va vn vc) gs (.agg #[.slice a7 (joinL l k n).r.length k7, .slice a8 (joinL l k n).w.length k8]) (.agg #[.slice a5 q.r.length k5, .slice a6 q.w.length k6]) (joinL l k n) (q) W (UP.out W hW _ _ _ C0.out) (UP.out W hW _ _ _ C1.out) (isGrants_over HV.out (hB7.trans (hW.mono hB7.size))) ((levAt_over hj7.out.2.2 hW)) ((levAt_over HQ.out (hB7.trans (hW.mono hB7.size)))) hch ((joinL_isLen l k n).1) (hqn)
  rw [join_lub, ← hf3, ← hf2] at hJQ
  have KJQ := hide hJQ
  clear hJQ
  have hQM := fun (W : World) (hW : Below w7.heap.size w7 W) => ask_any w.heap.size n (.slice va vn vc) gs (.agg #[.slice a5 q.r.length k5, .slice a6 q.w.length k6]) (.agg #[.slice a9 (meetL l k n).r.length k9, .slice a10 (meetL l k n).w.length k10]) (q) (meetL l k n) W (UP.out W hW _ _ _ C0.out) (UP.out W hW _ _ _ C1.out) (isGrants_over HV.out (hB7.trans (hW.mono hB7.size))) ((levAt_over HQ.out (hB7.trans (hW.mono hB7.size)))) ((levAt_over hm7.out.2.2 hW)) hch (hqn) ((joinL_isLen l k n).2)
  rw [meet_glb, ← hg2, ← hg3] at hQM
  have KQM := hide hQM
  clear hQM
  have TR : Hid (f1 = true → f2 = true → f3 = true) := by
    intro e1 e2
    rw [hf1] at e1
    rw [hf2] at e2
    rw [hf3]
    exact flows_trans e1 e2
  have hSL := fun (W : World) (hW : Below w7.heap.size w7 W) => SL.out W (hB7.trans (hW.mono hB7.size))
  have AN : Hid (f1 = true → f4 = true → sameLev l k = true) := by
    intro e1 e2
    rw [hf1] at e1
    rw [hf4] at e2
    exact flows_anti hln hkn e1 e2
  obtain ⟨sl, hsl⟩ : ∃ f, f = sameLev l k := ⟨_, rfl⟩
  rw [← hsl] at hSL AN
  have KSL := hide hSL
  have hf3' : f3 = true := by rw [hf3]; exact HF.out
  have hg2' : g2 = false := by rw [hg2]; exact HG.out
  clear hSL SL hsl hf1 hf2 hf3 hf4 hg2 hg3 hj7 hm7 hs7 C0 C1 UP HV HL HK HQ HF HG hln hkn hqn hch hsm c0 c1 c2 c3 c4 c5 c6 c7 KR hb7
  subst hf3' hg2'
  obtain ⟨c0, c1, c2, c3, c4, c5, c6, c7, c8, c9, hB⟩ := ht0.out
  go_wp2_with fail
  refine (KLL.out _ hB).mono ?_
  rintro e x1 ⟨rfl, hx1⟩
  have ht1 := hide (held10 ht0.out hx1)
  clear ht0 hx1
  clear c0 c1 c2 c3 c4 c5 c6 c7 c8 c9 hB
  obtain ⟨c0, c1, c2, c3, c4, c5, c6, c7, c8, c9, hB⟩ := ht1.out
  go_wp2_with fail
  refine (KLJ.out _ hB).mono ?_
  rintro e x2 ⟨rfl, hx2⟩
  have ht2 := hide (held10 ht1.out hx2)
  clear ht1 hx2
  clear c0 c1 c2 c3 c4 c5 c6 c7 c8 c9 hB
  obtain ⟨c0, c1, c2, c3, c4, c5, c6, c7, c8, c9, hB⟩ := ht2.out
  go_wp2_with fail
  refine (KKJ.out _ hB).mono ?_
  rintro e x3 ⟨rfl, hx3⟩
  have ht3 := hide (held10 ht2.out hx3)
  clear ht2 hx3
  clear c0 c1 c2 c3 c4 c5 c6 c7 c8 c9 hB
  obtain ⟨c0, c1, c2, c3, c4, c5, c6, c7, c8, c9, hB⟩ := ht3.out
  go_wp2_with fail
  refine (KML.out _ hB).mono ?_
  rintro e x4 ⟨rfl, hx4⟩
  have ht4 := hide (held10 ht3.out hx4)
  clear ht3 hx4
  clear c0 c1 c2 c3 c4 c5 c6 c7 c8 c9 hB
  obtain ⟨c0, c1, c2, c3, c4, c5, c6, c7, c8, c9, hB⟩ := ht4.out
  go_wp2_with fail
  refine (KMK.out _ hB).mono ?_
  rintro e x5 ⟨rfl, hx5⟩
  have ht5 := hide (held10 ht4.out hx5)
  clear ht4 hx5
  clear c0 c1 c2 c3 c4 c5 c6 c7 c8 c9 hB
  cases f1 with
  | false =>
    obtain ⟨c0, c1, c2, c3, c4, c5, c6, c7, c8, c9, hB⟩ := ht5.out
    go_wp2_with fail
    refine (KLK.out _ hB).mono ?_
    rintro e x6 ⟨rfl, hx6⟩
    have ht6 := hide (held10 ht5.out hx6)
    clear ht5 hx6
    clear c0 c1 c2 c3 c4 c5 c6 c7 c8 c9 hB
    obtain ⟨c0, c1, c2, c3, c4, c5, c6, c7, c8, c9, hB⟩ := ht6.out
    go_wp2_with fail
    refine (KLK.out _ hB).mono ?_
    rintro e x7 ⟨rfl, hx7⟩
    have ht7 := hide (held10 ht6.out hx7)
    clear ht6 hx7
    clear c0 c1 c2 c3 c4 c5 c6 c7 c8 c9 hB
    obtain ⟨c0, c1, c2, c3, c4, c5, c6, c7, c8, c9, hB⟩ := ht7.out
    go_wp2_with fail
    refine wp_region_held_drew (S := fun W => W.cell? ⟨w.heap.size + 1, 0, none⟩ = some (.slice a1 l.r.length k1) ∧ W.cell? ⟨w.heap.size + 1, 1, none⟩ = some (.slice a2 l.w.length k2) ∧ W.cell? ⟨w.heap.size + 1 + 1, 0, none⟩ = some (.slice a3 k.r.length k3) ∧ W.cell? ⟨w.heap.size + 1 + 1, 1, none⟩ = some (.slice a4 k.w.length k4) ∧ W.cell? ⟨w.heap.size + 1 + 1 + 1, 0, none⟩ = some (.slice a5 q.r.length k5) ∧ W.cell? ⟨w.heap.size + 1 + 1 + 1, 1, none⟩ = some (.slice a6 q.w.length k6) ∧ W.cell? ⟨w2.heap.size, 0, none⟩ = some (.slice a7 (joinL l k n).r.length k7) ∧ W.cell? ⟨w2.heap.size, 1, none⟩ = some (.slice a8 (joinL l k n).w.length k8) ∧ W.cell? ⟨w4.heap.size, 0, none⟩ = some (.slice a9 (meetL l k n).r.length k9) ∧ W.cell? ⟨w4.heap.size, 1, none⟩ = some (.slice a10 (meetL l k n).w.length k10) ∧ Below w7.heap.size w7 W) (by kernel_rfl) ⟨c0, c1, c2, c3, c4, c5, c6, c7, c8, c9, below_drewN hB 1⟩ (fun hHeld => ?_)
    clear ht7 c0 c1 c2 c3 c4 c5 c6 c7 c8 c9 hB KLL KLJ KKJ KML KMK KLK KKL KSL TR AN
    refine wpAnyH_take (i := 0) (v := ?_) rfl (by kernel_rfl) (by kernel_rfl) (by kernel_rfl) (fun _ _ _ h => h) (Or.inl ⟨by rfl, fun w hSw => ?_⟩) hHeld ?_
    rotate_left
    · obtain ⟨t0, t1, t2, t3, t4, t5, t6, t7, t8, t9, -⟩ := hSw; go_simp; first | done | with_reducible rfl
    simp only [List.getElem_toArray, List.getElem_cons_zero, Act.put, List.setIfInBounds_toArray, List.set_cons_zero, List.set_cons_succ]
    refine wpAnyH_take (i := 1) (v := ?_) rfl (by kernel_rfl) (by kernel_rfl) (by kernel_rfl) (fun _ _ _ h => h) (Or.inl ⟨by rfl, fun w hSw => ?_⟩) hHeld ?_
    rotate_left
    · obtain ⟨t0, t1, t2, t3, t4, t5, t6, t7, t8, t9, -⟩ := hSw; go_simp; first | done | with_reducible rfl
    simp only [List.getElem_toArray, List.getElem_cons_succ, List.getElem_cons_zero, Act.put, List.setIfInBounds_toArray, List.set_cons_zero, List.set_cons_succ]
    refine wpAnyH_take (i := 2) (v := ?_) rfl (by kernel_rfl) (by kernel_rfl) (by kernel_rfl) (fun _ _ _ h => h) (Or.inl ⟨by rfl, fun w hSw => ?_⟩) hHeld ?_
    rotate_left
    · obtain ⟨t0, t1, t2, t3, t4, t5, t6, t7, t8, t9, -⟩ := hSw; go_simp; first | done | with_reducible rfl
    simp only [List.getElem_toArray, List.getElem_cons_succ, List.getElem_cons_zero, Act.put, List.setIfInBounds_toArray, List.set_cons_zero, List.set_cons_succ]
    refine wpAnyH_take (i := 4) (v := ?_) rfl (by kernel_rfl) (by kernel_rfl) (by kernel_rfl) (fun _ _ _ h => h) (Or.inl ⟨by rfl, fun w hSw => ?_⟩) hHeld ?_
    rotate_left
    · obtain ⟨t0, t1, t2, t3, t4, t5, t6, t7, t8, t9, -⟩ := hSw; go_simp; first | done | with_reducible rfl
    simp only [List.getElem_toArray, List.getElem_cons_succ, List.getElem_cons_zero, Act.put, List.setIfInBounds_toArray, List.set_cons_zero, List.set_cons_succ]
    refine wpAnyH_take (i := 5) (v := ?_) rfl (by kernel_rfl) (by kernel_rfl) (by kernel_rfl) (fun _ _ _ h => h) (Or.inl ⟨by rfl, fun w hSw => ?_⟩) hHeld ?_
    rotate_left
    · obtain ⟨t0, t1, t2, t3, t4, t5, t6, t7, t8, t9, -⟩ := hSw; go_simp; first | done | with_reducible rfl
    simp only [List.getElem_toArray, List.getElem_cons_succ, List.getElem_cons_zero, Act.put, List.setIfInBounds_toArray, List.set_cons_zero, List.set_cons_succ]
    refine wpAnyH_take (i := 6) (v := ?_) rfl (by kernel_rfl) (by kernel_rfl) (by kernel_rfl) (fun _ _ _ h => h) (Or.inl ⟨by rfl, fun w hSw => ?_⟩) hHeld ?_
    rotate_left
    · obtain ⟨t0, t1, t2, t3, t4, t5, t6, t7, t8, t9, -⟩ := hSw; go_simp; first | done | with_reducible rfl
    simp only [List.getElem_toArray, List.getElem_cons_succ, List.getElem_cons_zero, Act.put, List.setIfInBounds_toArray, List.set_cons_zero, List.set_cons_succ]
    refine wpAnyH_ready (rs := [3]) (by kernel_rfl) (by simp) ?_
    refine AllReadyH.cons rfl (fun K hK => ?_) AllReadyH.nil
    go_simp
    go_at_call 23
    refine (KJQ.out _ hHeld.2.2.2.2.2.2.2.2.2.2).mono ?_
    rintro e y3 ⟨rfl, hy3⟩
    refine hK.out _ _ (held10 hHeld hy3) (fun hHeld => ?_)
    refine wpAnyH_ready (rs := [7]) (by kernel_rfl) (by simp) ?_
    refine AllReadyH.cons rfl (fun K hK => ?_) AllReadyH.nil
    go_simp
    go_at_call 23
    refine (KLQ.out _ hHeld.2.2.2.2.2.2.2.2.2.2).mono ?_
    rintro e y7 ⟨rfl, hy7⟩
    refine hK.out _ _ (held10 hHeld hy7) (fun hHeld => ?_)
    refine wpAnyH_take (i := 8) (v := ?_) rfl (by kernel_rfl) (by kernel_rfl) (by kernel_rfl) (fun _ _ _ h => h) (Or.inl ⟨by rfl, fun w hSw => ?_⟩) hHeld ?_
    rotate_left
    · obtain ⟨t0, t1, t2, t3, t4, t5, t6, t7, t8, t9, -⟩ := hSw; go_simp; first | done | with_reducible rfl
    simp only [List.getElem_toArray, List.getElem_cons_succ, List.getElem_cons_zero, Act.put, List.setIfInBounds_toArray, List.set_cons_zero, List.set_cons_succ]
    refine wpAnyH_take (i := 9) (v := ?_) rfl (by kernel_rfl) (by kernel_rfl) (by kernel_rfl) (fun _ _ _ h => h) (Or.inl ⟨by rfl, fun w hSw => ?_⟩) hHeld ?_
    rotate_left
    · obtain ⟨t0, t1, t2, t3, t4, t5, t6, t7, t8, t9, -⟩ := hSw; go_simp; first | done | with_reducible rfl
    simp only [List.getElem_toArray, List.getElem_cons_succ, List.getElem_cons_zero, Act.put, List.setIfInBounds_toArray, List.set_cons_zero, List.set_cons_succ]
    refine wpAnyH_take (i := 10) (v := ?_) rfl (by kernel_rfl) (by kernel_rfl) (by kernel_rfl) (fun _ _ _ h => h) (Or.inl ⟨by rfl, fun w hSw => ?_⟩) hHeld ?_
    rotate_left
    · obtain ⟨t0, t1, t2, t3, t4, t5, t6, t7, t8, t9, -⟩ := hSw; go_simp; first | done | with_reducible rfl
    simp only [List.getElem_toArray, List.getElem_cons_succ, List.getElem_cons_zero, Act.put, List.setIfInBounds_toArray, List.set_cons_zero, List.set_cons_succ]
    refine wpAnyH_take (i := 11) (v := ?_) rfl (by kernel_rfl) (by kernel_rfl) (by kernel_rfl) (fun _ _ _ h => h) (Or.inl ⟨by rfl, fun w hSw => ?_⟩) hHeld ?_
    rotate_left
    · obtain ⟨t0, t1, t2, t3, t4, t5, t6, t7, t8, t9, -⟩ := hSw; go_simp; first | done | with_reducible rfl
    simp only [List.getElem_toArray, List.getElem_cons_succ, List.getElem_cons_zero, Act.put, List.setIfInBounds_toArray, List.set_cons_zero, List.set_cons_succ]
    refine wpAnyH_ready (rs := [12]) (by kernel_rfl) (by simp) ?_
    refine AllReadyH.cons rfl (fun K hK => ?_) AllReadyH.nil
    go_simp
    go_at_call 23
    refine (KKQ.out _ hHeld.2.2.2.2.2.2.2.2.2.2).mono ?_
    rintro e y12 ⟨rfl, hy12⟩
    refine hK.out _ _ (held10 hHeld hy12) (fun hHeld => ?_)
    refine wpAnyH_take (i := 13) (v := ?_) rfl (by kernel_rfl) (by kernel_rfl) (by kernel_rfl) (fun _ _ _ h => h) (Or.inl ⟨by rfl, fun w hSw => ?_⟩) hHeld ?_
    rotate_left
    · obtain ⟨t0, t1, t2, t3, t4, t5, t6, t7, t8, t9, -⟩ := hSw; go_simp; first | done | with_reducible rfl
    simp only [List.getElem_toArray, List.getElem_cons_succ, List.getElem_cons_zero, Act.put, List.setIfInBounds_toArray, List.set_cons_zero, List.set_cons_succ]
    refine wpAnyH_take (i := 14) (v := ?_) rfl (by kernel_rfl) (by kernel_rfl) (by kernel_rfl) (fun _ _ _ h => h) (Or.inl ⟨by rfl, fun w hSw => ?_⟩) hHeld ?_
    rotate_left
    · obtain ⟨t0, t1, t2, t3, t4, t5, t6, t7, t8, t9, -⟩ := hSw; go_simp; first | done | with_reducible rfl
    simp only [List.getElem_toArray, List.getElem_cons_succ, List.getElem_cons_zero, Act.put, List.setIfInBounds_toArray, List.set_cons_zero, List.set_cons_succ]
    refine wpAnyH_take (i := 15) (v := ?_) rfl (by kernel_rfl) (by kernel_rfl) (by kernel_rfl) (fun _ _ _ h => h) (Or.inl ⟨by rfl, fun w hSw => ?_⟩) hHeld ?_
    rotate_left
    · obtain ⟨t0, t1, t2, t3, t4, t5, t6, t7, t8, t9, -⟩ := hSw; go_simp; first | done | with_reducible rfl
    simp only [List.getElem_toArray, List.getElem_cons_succ, List.getElem_cons_zero, Act.put, List.setIfInBounds_toArray, List.set_cons_zero, List.set_cons_succ]
    refine wpAnyH_take (i := 16) (v := ?_) rfl (by kernel_rfl) (by kernel_rfl) (by kernel_rfl) (fun _ _ _ h => h) (Or.inl ⟨by rfl, fun w hSw => ?_⟩) hHeld ?_
    rotate_left
    · obtain ⟨t0, t1, t2, t3, t4, t5, t6, t7, t8, t9, -⟩ := hSw; go_simp; first | done | with_reducible rfl
    simp only [List.getElem_toArray, List.getElem_cons_succ, List.getElem_cons_zero, Act.put, List.setIfInBounds_toArray, List.set_cons_zero, List.set_cons_succ]
    refine wpAnyH_take (i := 17) (v := ?_) rfl (by kernel_rfl) (by kernel_rfl) (by kernel_rfl) (fun _ _ _ h => h) (Or.inl ⟨by rfl, fun w hSw => ?_⟩) hHeld ?_
    rotate_left
    · obtain ⟨t0, t1, t2, t3, t4, t5, t6, t7, t8, t9, -⟩ := hSw; go_simp; first | done | with_reducible rfl
    simp only [List.getElem_toArray, List.getElem_cons_succ, List.getElem_cons_zero, Act.put, List.setIfInBounds_toArray, List.set_cons_zero, List.set_cons_succ]
    refine wpAnyH_take (i := 18) (v := ?_) rfl (by kernel_rfl) (by kernel_rfl) (by kernel_rfl) (fun _ _ _ h => h) (Or.inl ⟨by rfl, fun w hSw => ?_⟩) hHeld ?_
    rotate_left
    · obtain ⟨t0, t1, t2, t3, t4, t5, t6, t7, t8, t9, -⟩ := hSw; go_simp; first | done | with_reducible rfl
    simp only [List.getElem_toArray, List.getElem_cons_succ, List.getElem_cons_zero, Act.put, List.setIfInBounds_toArray, List.set_cons_zero, List.set_cons_succ]
    refine wpAnyH_take (i := 20) (v := ?_) rfl (by kernel_rfl) (by kernel_rfl) (by kernel_rfl) (fun _ _ _ h => h) (Or.inl ⟨by rfl, fun w hSw => ?_⟩) hHeld ?_
    rotate_left
    · obtain ⟨t0, t1, t2, t3, t4, t5, t6, t7, t8, t9, -⟩ := hSw; go_simp; first | done | with_reducible rfl
    simp only [List.getElem_toArray, List.getElem_cons_succ, List.getElem_cons_zero, Act.put, List.setIfInBounds_toArray, List.set_cons_zero, List.set_cons_succ]
    refine wpAnyH_take (i := 21) (v := ?_) rfl (by kernel_rfl) (by kernel_rfl) (by kernel_rfl) (fun _ _ _ h => h) (Or.inl ⟨by rfl, fun w hSw => ?_⟩) hHeld ?_
    rotate_left
    · obtain ⟨t0, t1, t2, t3, t4, t5, t6, t7, t8, t9, -⟩ := hSw; go_simp; first | done | with_reducible rfl
    simp only [List.getElem_toArray, List.getElem_cons_succ, List.getElem_cons_zero, Act.put, List.setIfInBounds_toArray, List.set_cons_zero, List.set_cons_succ]
    refine wpAnyH_take (i := 22) (v := ?_) rfl (by kernel_rfl) (by kernel_rfl) (by kernel_rfl) (fun _ _ _ h => h) (Or.inl ⟨by rfl, fun w hSw => ?_⟩) hHeld ?_
    rotate_left
    · obtain ⟨t0, t1, t2, t3, t4, t5, t6, t7, t8, t9, -⟩ := hSw; go_simp; first | done | with_reducible rfl
    simp only [List.getElem_toArray, List.getElem_cons_succ, List.getElem_cons_zero, Act.put, List.setIfInBounds_toArray, List.set_cons_zero, List.set_cons_succ]
    refine wpAnyH_ready (rs := [19]) (by kernel_rfl) (by simp) ?_
    refine AllReadyH.cons rfl (fun K hK => ?_) AllReadyH.nil
    go_simp
    go_at_call 23
    refine (KQM.out _ hHeld.2.2.2.2.2.2.2.2.2.2).mono ?_
    rintro e y19 ⟨rfl, hy19⟩
    refine hK.out _ _ (held10 hHeld hy19) (fun hHeld => ?_)
    refine wpAnyH_ready (rs := [23]) (by kernel_rfl) (by simp) ?_
    refine AllReadyH.cons rfl (fun K hK => ?_) AllReadyH.nil
    go_simp
    go_at_call 23
    refine (KQL.out _ hHeld.2.2.2.2.2.2.2.2.2.2).mono ?_
    rintro e y23 ⟨rfl, hy23⟩
    refine hK.out _ _ (held10 hHeld hy23) (fun hHeld => ?_)
    refine wpAnyH_take (i := 24) (v := ?_) rfl (by kernel_rfl) (by kernel_rfl) (by kernel_rfl) (fun _ _ _ h => h) (Or.inl ⟨by rfl, fun w hSw => ?_⟩) hHeld ?_
    rotate_left
    · obtain ⟨t0, t1, t2, t3, t4, t5, t6, t7, t8, t9, -⟩ := hSw; go_simp; first | done | with_reducible rfl
    simp only [List.getElem_toArray, List.getElem_cons_succ, List.getElem_cons_zero, Act.put, List.setIfInBounds_toArray, List.set_cons_zero, List.set_cons_succ]
    refine wpAnyH_take (i := 25) (v := undef) rfl (by kernel_rfl) (by kernel_rfl) (by kernel_rfl) (fun _ _ _ h => h) (Or.inr ⟨by rfl, rfl⟩) hHeld ?_
    simp only [List.getElem_toArray, List.getElem_cons_succ, List.getElem_cons_zero, Act.put, List.setIfInBounds_toArray, List.set_cons_zero, List.set_cons_succ]
    refine wpAnyH_take (i := 26) (v := undef) rfl (by kernel_rfl) (by kernel_rfl) (by kernel_rfl) (fun _ _ _ h => h) (Or.inr ⟨by rfl, rfl⟩) hHeld ?_
    simp only [List.getElem_toArray, List.getElem_cons_succ, List.getElem_cons_zero, Act.put, List.setIfInBounds_toArray, List.set_cons_zero, List.set_cons_succ]
    refine wpAnyH_take (i := 27) (v := undef) rfl (by kernel_rfl) (by kernel_rfl) (by kernel_rfl) (fun _ _ _ h => h) (Or.inr ⟨by rfl, rfl⟩) hHeld ?_
    simp only [List.getElem_toArray, List.getElem_cons_succ, List.getElem_cons_zero, Act.put, List.setIfInBounds_toArray, List.set_cons_zero, List.set_cons_succ]
    refine wpAnyH_take (i := 28) (v := undef) rfl (by kernel_rfl) (by kernel_rfl) (by kernel_rfl) (fun _ _ _ h => h) (Or.inr ⟨by rfl, rfl⟩) hHeld ?_
    simp only [List.getElem_toArray, List.getElem_cons_succ, List.getElem_cons_zero, Act.put, List.setIfInBounds_toArray, List.set_cons_zero, List.set_cons_succ]
    refine wpAnyH_take (i := 29) (v := ?_) rfl (by kernel_rfl) (by kernel_rfl) (by kernel_rfl) (fun _ _ _ h => h) (Or.inl ⟨by rfl, fun w hSw => ?_⟩) hHeld ?_
    rotate_left
    · obtain ⟨t0, t1, t2, t3, t4, t5, t6, t7, t8, t9, -⟩ := hSw; go_simp; first | done | with_reducible rfl
    simp only [List.getElem_toArray, List.getElem_cons_succ, List.getElem_cons_zero, Act.put, List.setIfInBounds_toArray, List.set_cons_zero, List.set_cons_succ]
    refine wpAnyH_take (i := 30) (v := ?_) rfl (by kernel_rfl) (by kernel_rfl) (by kernel_rfl) (fun _ _ _ h => h) (Or.inl ⟨by rfl, fun w hSw => ?_⟩) hHeld ?_
    rotate_left
    · obtain ⟨t0, t1, t2, t3, t4, t5, t6, t7, t8, t9, -⟩ := hSw; go_simp; first | done | with_reducible rfl
    simp only [List.getElem_toArray, List.getElem_cons_succ, List.getElem_cons_zero, Act.put, List.setIfInBounds_toArray, List.set_cons_zero, List.set_cons_succ]
    refine wpAnyH_take (i := 31) (v := ?_) rfl (by kernel_rfl) (by kernel_rfl) (by kernel_rfl) (fun _ _ _ h => h) (Or.inl ⟨by rfl, fun w hSw => ?_⟩) hHeld ?_
    rotate_left
    · obtain ⟨t0, t1, t2, t3, t4, t5, t6, t7, t8, t9, -⟩ := hSw; go_simp; first | done | with_reducible rfl
    simp only [List.getElem_toArray, List.getElem_cons_succ, List.getElem_cons_zero, Act.put, List.setIfInBounds_toArray, List.set_cons_zero, List.set_cons_succ]
    refine wpAnyH_take (i := 32) (v := ?_) rfl (by kernel_rfl) (by kernel_rfl) (by kernel_rfl) (fun _ _ _ h => h) (Or.inl ⟨by rfl, fun w hSw => ?_⟩) hHeld ?_
    rotate_left
    · obtain ⟨t0, t1, t2, t3, t4, t5, t6, t7, t8, t9, -⟩ := hSw; go_simp; first | done | with_reducible rfl
    simp only [List.getElem_toArray, List.getElem_cons_succ, List.getElem_cons_zero, Act.put, List.setIfInBounds_toArray, List.set_cons_zero, List.set_cons_succ]
    refine wpAnyH_done (by kernel_rfl) ?_ _
    go_wp2_with fail
    go_ret
    exact ⟨by first | rfl | simp, hB7.trans (hHeld.2.2.2.2.2.2.2.2.2.2.mono hB7.size)⟩
  | true =>
    cases f2 with
    | false =>
      obtain ⟨c0, c1, c2, c3, c4, c5, c6, c7, c8, c9, hB⟩ := ht5.out
      go_wp2_with fail
      refine (KLK.out _ hB).mono ?_
      rintro e x6 ⟨rfl, hx6⟩
      have ht6 := hide (held10 ht5.out hx6)
      clear ht5 hx6
      clear c0 c1 c2 c3 c4 c5 c6 c7 c8 c9 hB
      obtain ⟨c0, c1, c2, c3, c4, c5, c6, c7, c8, c9, hB⟩ := ht6.out
      go_wp2_with fail
      refine (KKQ.out _ hB).mono ?_
      rintro e x7 ⟨rfl, hx7⟩
      have ht7 := hide (held10 ht6.out hx7)
      clear ht6 hx7
      clear c0 c1 c2 c3 c4 c5 c6 c7 c8 c9 hB
      obtain ⟨c0, c1, c2, c3, c4, c5, c6, c7, c8, c9, hB⟩ := ht7.out
      go_wp2_with fail
      refine (KLK.out _ hB).mono ?_
      rintro e x8 ⟨rfl, hx8⟩
      have ht8 := hide (held10 ht7.out hx8)
      clear ht7 hx8
      clear c0 c1 c2 c3 c4 c5 c6 c7 c8 c9 hB
      cases f4 with
      | false =>
        obtain ⟨c0, c1, c2, c3, c4, c5, c6, c7, c8, c9, hB⟩ := ht8.out
        go_wp2_with fail
        refine (KKL.out _ hB).mono ?_
        rintro e x9 ⟨rfl, hx9⟩
        have ht9 := hide (held10 ht8.out hx9)
        clear ht8 hx9
        clear c0 c1 c2 c3 c4 c5 c6 c7 c8 c9 hB
        obtain ⟨c0, c1, c2, c3, c4, c5, c6, c7, c8, c9, hB⟩ := ht9.out
        go_wp2_with fail
        refine wp_region_held_drew (S := fun W => W.cell? ⟨w.heap.size + 1, 0, none⟩ = some (.slice a1 l.r.length k1) ∧ W.cell? ⟨w.heap.size + 1, 1, none⟩ = some (.slice a2 l.w.length k2) ∧ W.cell? ⟨w.heap.size + 1 + 1, 0, none⟩ = some (.slice a3 k.r.length k3) ∧ W.cell? ⟨w.heap.size + 1 + 1, 1, none⟩ = some (.slice a4 k.w.length k4) ∧ W.cell? ⟨w.heap.size + 1 + 1 + 1, 0, none⟩ = some (.slice a5 q.r.length k5) ∧ W.cell? ⟨w.heap.size + 1 + 1 + 1, 1, none⟩ = some (.slice a6 q.w.length k6) ∧ W.cell? ⟨w2.heap.size, 0, none⟩ = some (.slice a7 (joinL l k n).r.length k7) ∧ W.cell? ⟨w2.heap.size, 1, none⟩ = some (.slice a8 (joinL l k n).w.length k8) ∧ W.cell? ⟨w4.heap.size, 0, none⟩ = some (.slice a9 (meetL l k n).r.length k9) ∧ W.cell? ⟨w4.heap.size, 1, none⟩ = some (.slice a10 (meetL l k n).w.length k10) ∧ Below w7.heap.size w7 W) (by kernel_rfl) ⟨c0, c1, c2, c3, c4, c5, c6, c7, c8, c9, below_drewN hB 1⟩ (fun hHeld => ?_)
        clear ht9 c0 c1 c2 c3 c4 c5 c6 c7 c8 c9 hB KLL KLJ KKJ KML KMK KLK KKL KSL TR AN
        refine wpAnyH_take (i := 0) (v := ?_) rfl (by kernel_rfl) (by kernel_rfl) (by kernel_rfl) (fun _ _ _ h => h) (Or.inl ⟨by rfl, fun w hSw => ?_⟩) hHeld ?_
        rotate_left
        · obtain ⟨t0, t1, t2, t3, t4, t5, t6, t7, t8, t9, -⟩ := hSw; go_simp; first | done | with_reducible rfl
        simp only [List.getElem_toArray, List.getElem_cons_zero, Act.put, List.setIfInBounds_toArray, List.set_cons_zero, List.set_cons_succ]
        refine wpAnyH_take (i := 1) (v := ?_) rfl (by kernel_rfl) (by kernel_rfl) (by kernel_rfl) (fun _ _ _ h => h) (Or.inl ⟨by rfl, fun w hSw => ?_⟩) hHeld ?_
        rotate_left
        · obtain ⟨t0, t1, t2, t3, t4, t5, t6, t7, t8, t9, -⟩ := hSw; go_simp; first | done | with_reducible rfl
        simp only [List.getElem_toArray, List.getElem_cons_succ, List.getElem_cons_zero, Act.put, List.setIfInBounds_toArray, List.set_cons_zero, List.set_cons_succ]
        refine wpAnyH_take (i := 2) (v := ?_) rfl (by kernel_rfl) (by kernel_rfl) (by kernel_rfl) (fun _ _ _ h => h) (Or.inl ⟨by rfl, fun w hSw => ?_⟩) hHeld ?_
        rotate_left
        · obtain ⟨t0, t1, t2, t3, t4, t5, t6, t7, t8, t9, -⟩ := hSw; go_simp; first | done | with_reducible rfl
        simp only [List.getElem_toArray, List.getElem_cons_succ, List.getElem_cons_zero, Act.put, List.setIfInBounds_toArray, List.set_cons_zero, List.set_cons_succ]
        refine wpAnyH_take (i := 4) (v := ?_) rfl (by kernel_rfl) (by kernel_rfl) (by kernel_rfl) (fun _ _ _ h => h) (Or.inl ⟨by rfl, fun w hSw => ?_⟩) hHeld ?_
        rotate_left
        · obtain ⟨t0, t1, t2, t3, t4, t5, t6, t7, t8, t9, -⟩ := hSw; go_simp; first | done | with_reducible rfl
        simp only [List.getElem_toArray, List.getElem_cons_succ, List.getElem_cons_zero, Act.put, List.setIfInBounds_toArray, List.set_cons_zero, List.set_cons_succ]
        refine wpAnyH_take (i := 5) (v := ?_) rfl (by kernel_rfl) (by kernel_rfl) (by kernel_rfl) (fun _ _ _ h => h) (Or.inl ⟨by rfl, fun w hSw => ?_⟩) hHeld ?_
        rotate_left
        · obtain ⟨t0, t1, t2, t3, t4, t5, t6, t7, t8, t9, -⟩ := hSw; go_simp; first | done | with_reducible rfl
        simp only [List.getElem_toArray, List.getElem_cons_succ, List.getElem_cons_zero, Act.put, List.setIfInBounds_toArray, List.set_cons_zero, List.set_cons_succ]
        refine wpAnyH_take (i := 6) (v := ?_) rfl (by kernel_rfl) (by kernel_rfl) (by kernel_rfl) (fun _ _ _ h => h) (Or.inl ⟨by rfl, fun w hSw => ?_⟩) hHeld ?_
        rotate_left
        · obtain ⟨t0, t1, t2, t3, t4, t5, t6, t7, t8, t9, -⟩ := hSw; go_simp; first | done | with_reducible rfl
        simp only [List.getElem_toArray, List.getElem_cons_succ, List.getElem_cons_zero, Act.put, List.setIfInBounds_toArray, List.set_cons_zero, List.set_cons_succ]
        refine wpAnyH_ready (rs := [3]) (by kernel_rfl) (by simp) ?_
        refine AllReadyH.cons rfl (fun K hK => ?_) AllReadyH.nil
        go_simp
        go_at_call 23
        refine (KJQ.out _ hHeld.2.2.2.2.2.2.2.2.2.2).mono ?_
        rintro e y3 ⟨rfl, hy3⟩
        refine hK.out _ _ (held10 hHeld hy3) (fun hHeld => ?_)
        refine wpAnyH_ready (rs := [7]) (by kernel_rfl) (by simp) ?_
        refine AllReadyH.cons rfl (fun K hK => ?_) AllReadyH.nil
        go_simp
        go_at_call 23
        refine (KLQ.out _ hHeld.2.2.2.2.2.2.2.2.2.2).mono ?_
        rintro e y7 ⟨rfl, hy7⟩
        refine hK.out _ _ (held10 hHeld hy7) (fun hHeld => ?_)
        refine wpAnyH_take (i := 8) (v := ?_) rfl (by kernel_rfl) (by kernel_rfl) (by kernel_rfl) (fun _ _ _ h => h) (Or.inl ⟨by rfl, fun w hSw => ?_⟩) hHeld ?_
        rotate_left
        · obtain ⟨t0, t1, t2, t3, t4, t5, t6, t7, t8, t9, -⟩ := hSw; go_simp; first | done | with_reducible rfl
        simp only [List.getElem_toArray, List.getElem_cons_succ, List.getElem_cons_zero, Act.put, List.setIfInBounds_toArray, List.set_cons_zero, List.set_cons_succ]
        refine wpAnyH_take (i := 9) (v := ?_) rfl (by kernel_rfl) (by kernel_rfl) (by kernel_rfl) (fun _ _ _ h => h) (Or.inl ⟨by rfl, fun w hSw => ?_⟩) hHeld ?_
        rotate_left
        · obtain ⟨t0, t1, t2, t3, t4, t5, t6, t7, t8, t9, -⟩ := hSw; go_simp; first | done | with_reducible rfl
        simp only [List.getElem_toArray, List.getElem_cons_succ, List.getElem_cons_zero, Act.put, List.setIfInBounds_toArray, List.set_cons_zero, List.set_cons_succ]
        refine wpAnyH_take (i := 10) (v := ?_) rfl (by kernel_rfl) (by kernel_rfl) (by kernel_rfl) (fun _ _ _ h => h) (Or.inl ⟨by rfl, fun w hSw => ?_⟩) hHeld ?_
        rotate_left
        · obtain ⟨t0, t1, t2, t3, t4, t5, t6, t7, t8, t9, -⟩ := hSw; go_simp; first | done | with_reducible rfl
        simp only [List.getElem_toArray, List.getElem_cons_succ, List.getElem_cons_zero, Act.put, List.setIfInBounds_toArray, List.set_cons_zero, List.set_cons_succ]
        refine wpAnyH_take (i := 11) (v := ?_) rfl (by kernel_rfl) (by kernel_rfl) (by kernel_rfl) (fun _ _ _ h => h) (Or.inl ⟨by rfl, fun w hSw => ?_⟩) hHeld ?_
        rotate_left
        · obtain ⟨t0, t1, t2, t3, t4, t5, t6, t7, t8, t9, -⟩ := hSw; go_simp; first | done | with_reducible rfl
        simp only [List.getElem_toArray, List.getElem_cons_succ, List.getElem_cons_zero, Act.put, List.setIfInBounds_toArray, List.set_cons_zero, List.set_cons_succ]
        refine wpAnyH_ready (rs := [12]) (by kernel_rfl) (by simp) ?_
        refine AllReadyH.cons rfl (fun K hK => ?_) AllReadyH.nil
        go_simp
        go_at_call 23
        refine (KKQ.out _ hHeld.2.2.2.2.2.2.2.2.2.2).mono ?_
        rintro e y12 ⟨rfl, hy12⟩
        refine hK.out _ _ (held10 hHeld hy12) (fun hHeld => ?_)
        refine wpAnyH_take (i := 13) (v := ?_) rfl (by kernel_rfl) (by kernel_rfl) (by kernel_rfl) (fun _ _ _ h => h) (Or.inl ⟨by rfl, fun w hSw => ?_⟩) hHeld ?_
        rotate_left
        · obtain ⟨t0, t1, t2, t3, t4, t5, t6, t7, t8, t9, -⟩ := hSw; go_simp; first | done | with_reducible rfl
        simp only [List.getElem_toArray, List.getElem_cons_succ, List.getElem_cons_zero, Act.put, List.setIfInBounds_toArray, List.set_cons_zero, List.set_cons_succ]
        refine wpAnyH_take (i := 14) (v := ?_) rfl (by kernel_rfl) (by kernel_rfl) (by kernel_rfl) (fun _ _ _ h => h) (Or.inl ⟨by rfl, fun w hSw => ?_⟩) hHeld ?_
        rotate_left
        · obtain ⟨t0, t1, t2, t3, t4, t5, t6, t7, t8, t9, -⟩ := hSw; go_simp; first | done | with_reducible rfl
        simp only [List.getElem_toArray, List.getElem_cons_succ, List.getElem_cons_zero, Act.put, List.setIfInBounds_toArray, List.set_cons_zero, List.set_cons_succ]
        refine wpAnyH_take (i := 15) (v := ?_) rfl (by kernel_rfl) (by kernel_rfl) (by kernel_rfl) (fun _ _ _ h => h) (Or.inl ⟨by rfl, fun w hSw => ?_⟩) hHeld ?_
        rotate_left
        · obtain ⟨t0, t1, t2, t3, t4, t5, t6, t7, t8, t9, -⟩ := hSw; go_simp; first | done | with_reducible rfl
        simp only [List.getElem_toArray, List.getElem_cons_succ, List.getElem_cons_zero, Act.put, List.setIfInBounds_toArray, List.set_cons_zero, List.set_cons_succ]
        refine wpAnyH_take (i := 16) (v := ?_) rfl (by kernel_rfl) (by kernel_rfl) (by kernel_rfl) (fun _ _ _ h => h) (Or.inl ⟨by rfl, fun w hSw => ?_⟩) hHeld ?_
        rotate_left
        · obtain ⟨t0, t1, t2, t3, t4, t5, t6, t7, t8, t9, -⟩ := hSw; go_simp; first | done | with_reducible rfl
        simp only [List.getElem_toArray, List.getElem_cons_succ, List.getElem_cons_zero, Act.put, List.setIfInBounds_toArray, List.set_cons_zero, List.set_cons_succ]
        refine wpAnyH_take (i := 17) (v := ?_) rfl (by kernel_rfl) (by kernel_rfl) (by kernel_rfl) (fun _ _ _ h => h) (Or.inl ⟨by rfl, fun w hSw => ?_⟩) hHeld ?_
        rotate_left
        · obtain ⟨t0, t1, t2, t3, t4, t5, t6, t7, t8, t9, -⟩ := hSw; go_simp; first | done | with_reducible rfl
        simp only [List.getElem_toArray, List.getElem_cons_succ, List.getElem_cons_zero, Act.put, List.setIfInBounds_toArray, List.set_cons_zero, List.set_cons_succ]
        refine wpAnyH_take (i := 18) (v := ?_) rfl (by kernel_rfl) (by kernel_rfl) (by kernel_rfl) (fun _ _ _ h => h) (Or.inl ⟨by rfl, fun w hSw => ?_⟩) hHeld ?_
        rotate_left
        · obtain ⟨t0, t1, t2, t3, t4, t5, t6, t7, t8, t9, -⟩ := hSw; go_simp; first | done | with_reducible rfl
        simp only [List.getElem_toArray, List.getElem_cons_succ, List.getElem_cons_zero, Act.put, List.setIfInBounds_toArray, List.set_cons_zero, List.set_cons_succ]
        refine wpAnyH_take (i := 20) (v := ?_) rfl (by kernel_rfl) (by kernel_rfl) (by kernel_rfl) (fun _ _ _ h => h) (Or.inl ⟨by rfl, fun w hSw => ?_⟩) hHeld ?_
        rotate_left
        · obtain ⟨t0, t1, t2, t3, t4, t5, t6, t7, t8, t9, -⟩ := hSw; go_simp; first | done | with_reducible rfl
        simp only [List.getElem_toArray, List.getElem_cons_succ, List.getElem_cons_zero, Act.put, List.setIfInBounds_toArray, List.set_cons_zero, List.set_cons_succ]
        refine wpAnyH_take (i := 21) (v := ?_) rfl (by kernel_rfl) (by kernel_rfl) (by kernel_rfl) (fun _ _ _ h => h) (Or.inl ⟨by rfl, fun w hSw => ?_⟩) hHeld ?_
        rotate_left
        · obtain ⟨t0, t1, t2, t3, t4, t5, t6, t7, t8, t9, -⟩ := hSw; go_simp; first | done | with_reducible rfl
        simp only [List.getElem_toArray, List.getElem_cons_succ, List.getElem_cons_zero, Act.put, List.setIfInBounds_toArray, List.set_cons_zero, List.set_cons_succ]
        refine wpAnyH_take (i := 22) (v := ?_) rfl (by kernel_rfl) (by kernel_rfl) (by kernel_rfl) (fun _ _ _ h => h) (Or.inl ⟨by rfl, fun w hSw => ?_⟩) hHeld ?_
        rotate_left
        · obtain ⟨t0, t1, t2, t3, t4, t5, t6, t7, t8, t9, -⟩ := hSw; go_simp; first | done | with_reducible rfl
        simp only [List.getElem_toArray, List.getElem_cons_succ, List.getElem_cons_zero, Act.put, List.setIfInBounds_toArray, List.set_cons_zero, List.set_cons_succ]
        refine wpAnyH_ready (rs := [19]) (by kernel_rfl) (by simp) ?_
        refine AllReadyH.cons rfl (fun K hK => ?_) AllReadyH.nil
        go_simp
        go_at_call 23
        refine (KQM.out _ hHeld.2.2.2.2.2.2.2.2.2.2).mono ?_
        rintro e y19 ⟨rfl, hy19⟩
        refine hK.out _ _ (held10 hHeld hy19) (fun hHeld => ?_)
        refine wpAnyH_ready (rs := [23]) (by kernel_rfl) (by simp) ?_
        refine AllReadyH.cons rfl (fun K hK => ?_) AllReadyH.nil
        go_simp
        go_at_call 23
        refine (KQL.out _ hHeld.2.2.2.2.2.2.2.2.2.2).mono ?_
        rintro e y23 ⟨rfl, hy23⟩
        refine hK.out _ _ (held10 hHeld hy23) (fun hHeld => ?_)
        refine wpAnyH_take (i := 24) (v := ?_) rfl (by kernel_rfl) (by kernel_rfl) (by kernel_rfl) (fun _ _ _ h => h) (Or.inl ⟨by rfl, fun w hSw => ?_⟩) hHeld ?_
        rotate_left
        · obtain ⟨t0, t1, t2, t3, t4, t5, t6, t7, t8, t9, -⟩ := hSw; go_simp; first | done | with_reducible rfl
        simp only [List.getElem_toArray, List.getElem_cons_succ, List.getElem_cons_zero, Act.put, List.setIfInBounds_toArray, List.set_cons_zero, List.set_cons_succ]
        refine wpAnyH_take (i := 25) (v := undef) rfl (by kernel_rfl) (by kernel_rfl) (by kernel_rfl) (fun _ _ _ h => h) (Or.inr ⟨by rfl, rfl⟩) hHeld ?_
        simp only [List.getElem_toArray, List.getElem_cons_succ, List.getElem_cons_zero, Act.put, List.setIfInBounds_toArray, List.set_cons_zero, List.set_cons_succ]
        refine wpAnyH_take (i := 26) (v := undef) rfl (by kernel_rfl) (by kernel_rfl) (by kernel_rfl) (fun _ _ _ h => h) (Or.inr ⟨by rfl, rfl⟩) hHeld ?_
        simp only [List.getElem_toArray, List.getElem_cons_succ, List.getElem_cons_zero, Act.put, List.setIfInBounds_toArray, List.set_cons_zero, List.set_cons_succ]
        refine wpAnyH_take (i := 27) (v := undef) rfl (by kernel_rfl) (by kernel_rfl) (by kernel_rfl) (fun _ _ _ h => h) (Or.inr ⟨by rfl, rfl⟩) hHeld ?_
        simp only [List.getElem_toArray, List.getElem_cons_succ, List.getElem_cons_zero, Act.put, List.setIfInBounds_toArray, List.set_cons_zero, List.set_cons_succ]
        refine wpAnyH_take (i := 28) (v := undef) rfl (by kernel_rfl) (by kernel_rfl) (by kernel_rfl) (fun _ _ _ h => h) (Or.inr ⟨by rfl, rfl⟩) hHeld ?_
        simp only [List.getElem_toArray, List.getElem_cons_succ, List.getElem_cons_zero, Act.put, List.setIfInBounds_toArray, List.set_cons_zero, List.set_cons_succ]
        refine wpAnyH_take (i := 29) (v := ?_) rfl (by kernel_rfl) (by kernel_rfl) (by kernel_rfl) (fun _ _ _ h => h) (Or.inl ⟨by rfl, fun w hSw => ?_⟩) hHeld ?_
        rotate_left
        · obtain ⟨t0, t1, t2, t3, t4, t5, t6, t7, t8, t9, -⟩ := hSw; go_simp; first | done | with_reducible rfl
        simp only [List.getElem_toArray, List.getElem_cons_succ, List.getElem_cons_zero, Act.put, List.setIfInBounds_toArray, List.set_cons_zero, List.set_cons_succ]
        refine wpAnyH_take (i := 30) (v := ?_) rfl (by kernel_rfl) (by kernel_rfl) (by kernel_rfl) (fun _ _ _ h => h) (Or.inl ⟨by rfl, fun w hSw => ?_⟩) hHeld ?_
        rotate_left
        · obtain ⟨t0, t1, t2, t3, t4, t5, t6, t7, t8, t9, -⟩ := hSw; go_simp; first | done | with_reducible rfl
        simp only [List.getElem_toArray, List.getElem_cons_succ, List.getElem_cons_zero, Act.put, List.setIfInBounds_toArray, List.set_cons_zero, List.set_cons_succ]
        refine wpAnyH_take (i := 31) (v := ?_) rfl (by kernel_rfl) (by kernel_rfl) (by kernel_rfl) (fun _ _ _ h => h) (Or.inl ⟨by rfl, fun w hSw => ?_⟩) hHeld ?_
        rotate_left
        · obtain ⟨t0, t1, t2, t3, t4, t5, t6, t7, t8, t9, -⟩ := hSw; go_simp; first | done | with_reducible rfl
        simp only [List.getElem_toArray, List.getElem_cons_succ, List.getElem_cons_zero, Act.put, List.setIfInBounds_toArray, List.set_cons_zero, List.set_cons_succ]
        refine wpAnyH_take (i := 32) (v := ?_) rfl (by kernel_rfl) (by kernel_rfl) (by kernel_rfl) (fun _ _ _ h => h) (Or.inl ⟨by rfl, fun w hSw => ?_⟩) hHeld ?_
        rotate_left
        · obtain ⟨t0, t1, t2, t3, t4, t5, t6, t7, t8, t9, -⟩ := hSw; go_simp; first | done | with_reducible rfl
        simp only [List.getElem_toArray, List.getElem_cons_succ, List.getElem_cons_zero, Act.put, List.setIfInBounds_toArray, List.set_cons_zero, List.set_cons_succ]
        refine wpAnyH_done (by kernel_rfl) ?_ _
        go_wp2_with fail
        go_ret
        exact ⟨by first | rfl | simp, hB7.trans (hHeld.2.2.2.2.2.2.2.2.2.2.mono hB7.size)⟩
      | true =>
        have hs1 := AN.out (by first | rfl | trivial) (by first | rfl | trivial)
        subst hs1
        obtain ⟨c0, c1, c2, c3, c4, c5, c6, c7, c8, c9, hB⟩ := ht8.out
        go_wp2_with fail
        refine (KKL.out _ hB).mono ?_
        rintro e x9 ⟨rfl, hx9⟩
        have ht9 := hide (held10 ht8.out hx9)
        clear ht8 hx9
        clear c0 c1 c2 c3 c4 c5 c6 c7 c8 c9 hB
        obtain ⟨c0, c1, c2, c3, c4, c5, c6, c7, c8, c9, hB⟩ := ht9.out
        go_wp2_with fail
        refine (KSL.out _ hB).mono ?_
        rintro e x10 ⟨rfl, hx10⟩
        have ht10 := hide (held10 ht9.out hx10)
        clear ht9 hx10
        clear c0 c1 c2 c3 c4 c5 c6 c7 c8 c9 hB
        obtain ⟨c0, c1, c2, c3, c4, c5, c6, c7, c8, c9, hB⟩ := ht10.out
        go_wp2_with fail
        refine wp_region_held_drew (S := fun W => W.cell? ⟨w.heap.size + 1, 0, none⟩ = some (.slice a1 l.r.length k1) ∧ W.cell? ⟨w.heap.size + 1, 1, none⟩ = some (.slice a2 l.w.length k2) ∧ W.cell? ⟨w.heap.size + 1 + 1, 0, none⟩ = some (.slice a3 k.r.length k3) ∧ W.cell? ⟨w.heap.size + 1 + 1, 1, none⟩ = some (.slice a4 k.w.length k4) ∧ W.cell? ⟨w.heap.size + 1 + 1 + 1, 0, none⟩ = some (.slice a5 q.r.length k5) ∧ W.cell? ⟨w.heap.size + 1 + 1 + 1, 1, none⟩ = some (.slice a6 q.w.length k6) ∧ W.cell? ⟨w2.heap.size, 0, none⟩ = some (.slice a7 (joinL l k n).r.length k7) ∧ W.cell? ⟨w2.heap.size, 1, none⟩ = some (.slice a8 (joinL l k n).w.length k8) ∧ W.cell? ⟨w4.heap.size, 0, none⟩ = some (.slice a9 (meetL l k n).r.length k9) ∧ W.cell? ⟨w4.heap.size, 1, none⟩ = some (.slice a10 (meetL l k n).w.length k10) ∧ Below w7.heap.size w7 W) (by kernel_rfl) ⟨c0, c1, c2, c3, c4, c5, c6, c7, c8, c9, below_drewN hB 1⟩ (fun hHeld => ?_)
        clear ht10 c0 c1 c2 c3 c4 c5 c6 c7 c8 c9 hB KLL KLJ KKJ KML KMK KLK KKL KSL TR AN
        refine wpAnyH_take (i := 0) (v := ?_) rfl (by kernel_rfl) (by kernel_rfl) (by kernel_rfl) (fun _ _ _ h => h) (Or.inl ⟨by rfl, fun w hSw => ?_⟩) hHeld ?_
        rotate_left
        · obtain ⟨t0, t1, t2, t3, t4, t5, t6, t7, t8, t9, -⟩ := hSw; go_simp; first | done | with_reducible rfl
        simp only [List.getElem_toArray, List.getElem_cons_zero, Act.put, List.setIfInBounds_toArray, List.set_cons_zero, List.set_cons_succ]
        refine wpAnyH_take (i := 1) (v := ?_) rfl (by kernel_rfl) (by kernel_rfl) (by kernel_rfl) (fun _ _ _ h => h) (Or.inl ⟨by rfl, fun w hSw => ?_⟩) hHeld ?_
        rotate_left
        · obtain ⟨t0, t1, t2, t3, t4, t5, t6, t7, t8, t9, -⟩ := hSw; go_simp; first | done | with_reducible rfl
        simp only [List.getElem_toArray, List.getElem_cons_succ, List.getElem_cons_zero, Act.put, List.setIfInBounds_toArray, List.set_cons_zero, List.set_cons_succ]
        refine wpAnyH_take (i := 2) (v := ?_) rfl (by kernel_rfl) (by kernel_rfl) (by kernel_rfl) (fun _ _ _ h => h) (Or.inl ⟨by rfl, fun w hSw => ?_⟩) hHeld ?_
        rotate_left
        · obtain ⟨t0, t1, t2, t3, t4, t5, t6, t7, t8, t9, -⟩ := hSw; go_simp; first | done | with_reducible rfl
        simp only [List.getElem_toArray, List.getElem_cons_succ, List.getElem_cons_zero, Act.put, List.setIfInBounds_toArray, List.set_cons_zero, List.set_cons_succ]
        refine wpAnyH_take (i := 4) (v := ?_) rfl (by kernel_rfl) (by kernel_rfl) (by kernel_rfl) (fun _ _ _ h => h) (Or.inl ⟨by rfl, fun w hSw => ?_⟩) hHeld ?_
        rotate_left
        · obtain ⟨t0, t1, t2, t3, t4, t5, t6, t7, t8, t9, -⟩ := hSw; go_simp; first | done | with_reducible rfl
        simp only [List.getElem_toArray, List.getElem_cons_succ, List.getElem_cons_zero, Act.put, List.setIfInBounds_toArray, List.set_cons_zero, List.set_cons_succ]
        refine wpAnyH_take (i := 5) (v := ?_) rfl (by kernel_rfl) (by kernel_rfl) (by kernel_rfl) (fun _ _ _ h => h) (Or.inl ⟨by rfl, fun w hSw => ?_⟩) hHeld ?_
        rotate_left
        · obtain ⟨t0, t1, t2, t3, t4, t5, t6, t7, t8, t9, -⟩ := hSw; go_simp; first | done | with_reducible rfl
        simp only [List.getElem_toArray, List.getElem_cons_succ, List.getElem_cons_zero, Act.put, List.setIfInBounds_toArray, List.set_cons_zero, List.set_cons_succ]
        refine wpAnyH_take (i := 6) (v := ?_) rfl (by kernel_rfl) (by kernel_rfl) (by kernel_rfl) (fun _ _ _ h => h) (Or.inl ⟨by rfl, fun w hSw => ?_⟩) hHeld ?_
        rotate_left
        · obtain ⟨t0, t1, t2, t3, t4, t5, t6, t7, t8, t9, -⟩ := hSw; go_simp; first | done | with_reducible rfl
        simp only [List.getElem_toArray, List.getElem_cons_succ, List.getElem_cons_zero, Act.put, List.setIfInBounds_toArray, List.set_cons_zero, List.set_cons_succ]
        refine wpAnyH_ready (rs := [3]) (by kernel_rfl) (by simp) ?_
        refine AllReadyH.cons rfl (fun K hK => ?_) AllReadyH.nil
        go_simp
        go_at_call 23
        refine (KJQ.out _ hHeld.2.2.2.2.2.2.2.2.2.2).mono ?_
        rintro e y3 ⟨rfl, hy3⟩
        refine hK.out _ _ (held10 hHeld hy3) (fun hHeld => ?_)
        refine wpAnyH_ready (rs := [7]) (by kernel_rfl) (by simp) ?_
        refine AllReadyH.cons rfl (fun K hK => ?_) AllReadyH.nil
        go_simp
        go_at_call 23
        refine (KLQ.out _ hHeld.2.2.2.2.2.2.2.2.2.2).mono ?_
        rintro e y7 ⟨rfl, hy7⟩
        refine hK.out _ _ (held10 hHeld hy7) (fun hHeld => ?_)
        refine wpAnyH_take (i := 8) (v := ?_) rfl (by kernel_rfl) (by kernel_rfl) (by kernel_rfl) (fun _ _ _ h => h) (Or.inl ⟨by rfl, fun w hSw => ?_⟩) hHeld ?_
        rotate_left
        · obtain ⟨t0, t1, t2, t3, t4, t5, t6, t7, t8, t9, -⟩ := hSw; go_simp; first | done | with_reducible rfl
        simp only [List.getElem_toArray, List.getElem_cons_succ, List.getElem_cons_zero, Act.put, List.setIfInBounds_toArray, List.set_cons_zero, List.set_cons_succ]
        refine wpAnyH_take (i := 9) (v := ?_) rfl (by kernel_rfl) (by kernel_rfl) (by kernel_rfl) (fun _ _ _ h => h) (Or.inl ⟨by rfl, fun w hSw => ?_⟩) hHeld ?_
        rotate_left
        · obtain ⟨t0, t1, t2, t3, t4, t5, t6, t7, t8, t9, -⟩ := hSw; go_simp; first | done | with_reducible rfl
        simp only [List.getElem_toArray, List.getElem_cons_succ, List.getElem_cons_zero, Act.put, List.setIfInBounds_toArray, List.set_cons_zero, List.set_cons_succ]
        refine wpAnyH_take (i := 10) (v := ?_) rfl (by kernel_rfl) (by kernel_rfl) (by kernel_rfl) (fun _ _ _ h => h) (Or.inl ⟨by rfl, fun w hSw => ?_⟩) hHeld ?_
        rotate_left
        · obtain ⟨t0, t1, t2, t3, t4, t5, t6, t7, t8, t9, -⟩ := hSw; go_simp; first | done | with_reducible rfl
        simp only [List.getElem_toArray, List.getElem_cons_succ, List.getElem_cons_zero, Act.put, List.setIfInBounds_toArray, List.set_cons_zero, List.set_cons_succ]
        refine wpAnyH_take (i := 11) (v := ?_) rfl (by kernel_rfl) (by kernel_rfl) (by kernel_rfl) (fun _ _ _ h => h) (Or.inl ⟨by rfl, fun w hSw => ?_⟩) hHeld ?_
        rotate_left
        · obtain ⟨t0, t1, t2, t3, t4, t5, t6, t7, t8, t9, -⟩ := hSw; go_simp; first | done | with_reducible rfl
        simp only [List.getElem_toArray, List.getElem_cons_succ, List.getElem_cons_zero, Act.put, List.setIfInBounds_toArray, List.set_cons_zero, List.set_cons_succ]
        refine wpAnyH_ready (rs := [12]) (by kernel_rfl) (by simp) ?_
        refine AllReadyH.cons rfl (fun K hK => ?_) AllReadyH.nil
        go_simp
        go_at_call 23
        refine (KKQ.out _ hHeld.2.2.2.2.2.2.2.2.2.2).mono ?_
        rintro e y12 ⟨rfl, hy12⟩
        refine hK.out _ _ (held10 hHeld hy12) (fun hHeld => ?_)
        refine wpAnyH_take (i := 13) (v := ?_) rfl (by kernel_rfl) (by kernel_rfl) (by kernel_rfl) (fun _ _ _ h => h) (Or.inl ⟨by rfl, fun w hSw => ?_⟩) hHeld ?_
        rotate_left
        · obtain ⟨t0, t1, t2, t3, t4, t5, t6, t7, t8, t9, -⟩ := hSw; go_simp; first | done | with_reducible rfl
        simp only [List.getElem_toArray, List.getElem_cons_succ, List.getElem_cons_zero, Act.put, List.setIfInBounds_toArray, List.set_cons_zero, List.set_cons_succ]
        refine wpAnyH_take (i := 14) (v := ?_) rfl (by kernel_rfl) (by kernel_rfl) (by kernel_rfl) (fun _ _ _ h => h) (Or.inl ⟨by rfl, fun w hSw => ?_⟩) hHeld ?_
        rotate_left
        · obtain ⟨t0, t1, t2, t3, t4, t5, t6, t7, t8, t9, -⟩ := hSw; go_simp; first | done | with_reducible rfl
        simp only [List.getElem_toArray, List.getElem_cons_succ, List.getElem_cons_zero, Act.put, List.setIfInBounds_toArray, List.set_cons_zero, List.set_cons_succ]
        refine wpAnyH_take (i := 15) (v := ?_) rfl (by kernel_rfl) (by kernel_rfl) (by kernel_rfl) (fun _ _ _ h => h) (Or.inl ⟨by rfl, fun w hSw => ?_⟩) hHeld ?_
        rotate_left
        · obtain ⟨t0, t1, t2, t3, t4, t5, t6, t7, t8, t9, -⟩ := hSw; go_simp; first | done | with_reducible rfl
        simp only [List.getElem_toArray, List.getElem_cons_succ, List.getElem_cons_zero, Act.put, List.setIfInBounds_toArray, List.set_cons_zero, List.set_cons_succ]
        refine wpAnyH_take (i := 16) (v := ?_) rfl (by kernel_rfl) (by kernel_rfl) (by kernel_rfl) (fun _ _ _ h => h) (Or.inl ⟨by rfl, fun w hSw => ?_⟩) hHeld ?_
        rotate_left
        · obtain ⟨t0, t1, t2, t3, t4, t5, t6, t7, t8, t9, -⟩ := hSw; go_simp; first | done | with_reducible rfl
        simp only [List.getElem_toArray, List.getElem_cons_succ, List.getElem_cons_zero, Act.put, List.setIfInBounds_toArray, List.set_cons_zero, List.set_cons_succ]
        refine wpAnyH_take (i := 17) (v := ?_) rfl (by kernel_rfl) (by kernel_rfl) (by kernel_rfl) (fun _ _ _ h => h) (Or.inl ⟨by rfl, fun w hSw => ?_⟩) hHeld ?_
        rotate_left
        · obtain ⟨t0, t1, t2, t3, t4, t5, t6, t7, t8, t9, -⟩ := hSw; go_simp; first | done | with_reducible rfl
        simp only [List.getElem_toArray, List.getElem_cons_succ, List.getElem_cons_zero, Act.put, List.setIfInBounds_toArray, List.set_cons_zero, List.set_cons_succ]
        refine wpAnyH_take (i := 18) (v := ?_) rfl (by kernel_rfl) (by kernel_rfl) (by kernel_rfl) (fun _ _ _ h => h) (Or.inl ⟨by rfl, fun w hSw => ?_⟩) hHeld ?_
        rotate_left
        · obtain ⟨t0, t1, t2, t3, t4, t5, t6, t7, t8, t9, -⟩ := hSw; go_simp; first | done | with_reducible rfl
        simp only [List.getElem_toArray, List.getElem_cons_succ, List.getElem_cons_zero, Act.put, List.setIfInBounds_toArray, List.set_cons_zero, List.set_cons_succ]
        refine wpAnyH_take (i := 20) (v := ?_) rfl (by kernel_rfl) (by kernel_rfl) (by kernel_rfl) (fun _ _ _ h => h) (Or.inl ⟨by rfl, fun w hSw => ?_⟩) hHeld ?_
        rotate_left
        · obtain ⟨t0, t1, t2, t3, t4, t5, t6, t7, t8, t9, -⟩ := hSw; go_simp; first | done | with_reducible rfl
        simp only [List.getElem_toArray, List.getElem_cons_succ, List.getElem_cons_zero, Act.put, List.setIfInBounds_toArray, List.set_cons_zero, List.set_cons_succ]
        refine wpAnyH_take (i := 21) (v := ?_) rfl (by kernel_rfl) (by kernel_rfl) (by kernel_rfl) (fun _ _ _ h => h) (Or.inl ⟨by rfl, fun w hSw => ?_⟩) hHeld ?_
        rotate_left
        · obtain ⟨t0, t1, t2, t3, t4, t5, t6, t7, t8, t9, -⟩ := hSw; go_simp; first | done | with_reducible rfl
        simp only [List.getElem_toArray, List.getElem_cons_succ, List.getElem_cons_zero, Act.put, List.setIfInBounds_toArray, List.set_cons_zero, List.set_cons_succ]
        refine wpAnyH_take (i := 22) (v := ?_) rfl (by kernel_rfl) (by kernel_rfl) (by kernel_rfl) (fun _ _ _ h => h) (Or.inl ⟨by rfl, fun w hSw => ?_⟩) hHeld ?_
        rotate_left
        · obtain ⟨t0, t1, t2, t3, t4, t5, t6, t7, t8, t9, -⟩ := hSw; go_simp; first | done | with_reducible rfl
        simp only [List.getElem_toArray, List.getElem_cons_succ, List.getElem_cons_zero, Act.put, List.setIfInBounds_toArray, List.set_cons_zero, List.set_cons_succ]
        refine wpAnyH_ready (rs := [19]) (by kernel_rfl) (by simp) ?_
        refine AllReadyH.cons rfl (fun K hK => ?_) AllReadyH.nil
        go_simp
        go_at_call 23
        refine (KQM.out _ hHeld.2.2.2.2.2.2.2.2.2.2).mono ?_
        rintro e y19 ⟨rfl, hy19⟩
        refine hK.out _ _ (held10 hHeld hy19) (fun hHeld => ?_)
        refine wpAnyH_ready (rs := [23]) (by kernel_rfl) (by simp) ?_
        refine AllReadyH.cons rfl (fun K hK => ?_) AllReadyH.nil
        go_simp
        go_at_call 23
        refine (KQL.out _ hHeld.2.2.2.2.2.2.2.2.2.2).mono ?_
        rintro e y23 ⟨rfl, hy23⟩
        refine hK.out _ _ (held10 hHeld hy23) (fun hHeld => ?_)
        refine wpAnyH_take (i := 24) (v := ?_) rfl (by kernel_rfl) (by kernel_rfl) (by kernel_rfl) (fun _ _ _ h => h) (Or.inl ⟨by rfl, fun w hSw => ?_⟩) hHeld ?_
        rotate_left
        · obtain ⟨t0, t1, t2, t3, t4, t5, t6, t7, t8, t9, -⟩ := hSw; go_simp; first | done | with_reducible rfl
        simp only [List.getElem_toArray, List.getElem_cons_succ, List.getElem_cons_zero, Act.put, List.setIfInBounds_toArray, List.set_cons_zero, List.set_cons_succ]
        refine wpAnyH_take (i := 25) (v := undef) rfl (by kernel_rfl) (by kernel_rfl) (by kernel_rfl) (fun _ _ _ h => h) (Or.inr ⟨by rfl, rfl⟩) hHeld ?_
        simp only [List.getElem_toArray, List.getElem_cons_succ, List.getElem_cons_zero, Act.put, List.setIfInBounds_toArray, List.set_cons_zero, List.set_cons_succ]
        refine wpAnyH_take (i := 26) (v := undef) rfl (by kernel_rfl) (by kernel_rfl) (by kernel_rfl) (fun _ _ _ h => h) (Or.inr ⟨by rfl, rfl⟩) hHeld ?_
        simp only [List.getElem_toArray, List.getElem_cons_succ, List.getElem_cons_zero, Act.put, List.setIfInBounds_toArray, List.set_cons_zero, List.set_cons_succ]
        refine wpAnyH_take (i := 27) (v := undef) rfl (by kernel_rfl) (by kernel_rfl) (by kernel_rfl) (fun _ _ _ h => h) (Or.inr ⟨by rfl, rfl⟩) hHeld ?_
        simp only [List.getElem_toArray, List.getElem_cons_succ, List.getElem_cons_zero, Act.put, List.setIfInBounds_toArray, List.set_cons_zero, List.set_cons_succ]
        refine wpAnyH_take (i := 28) (v := undef) rfl (by kernel_rfl) (by kernel_rfl) (by kernel_rfl) (fun _ _ _ h => h) (Or.inr ⟨by rfl, rfl⟩) hHeld ?_
        simp only [List.getElem_toArray, List.getElem_cons_succ, List.getElem_cons_zero, Act.put, List.setIfInBounds_toArray, List.set_cons_zero, List.set_cons_succ]
        refine wpAnyH_take (i := 29) (v := ?_) rfl (by kernel_rfl) (by kernel_rfl) (by kernel_rfl) (fun _ _ _ h => h) (Or.inl ⟨by rfl, fun w hSw => ?_⟩) hHeld ?_
        rotate_left
        · obtain ⟨t0, t1, t2, t3, t4, t5, t6, t7, t8, t9, -⟩ := hSw; go_simp; first | done | with_reducible rfl
        simp only [List.getElem_toArray, List.getElem_cons_succ, List.getElem_cons_zero, Act.put, List.setIfInBounds_toArray, List.set_cons_zero, List.set_cons_succ]
        refine wpAnyH_take (i := 30) (v := ?_) rfl (by kernel_rfl) (by kernel_rfl) (by kernel_rfl) (fun _ _ _ h => h) (Or.inl ⟨by rfl, fun w hSw => ?_⟩) hHeld ?_
        rotate_left
        · obtain ⟨t0, t1, t2, t3, t4, t5, t6, t7, t8, t9, -⟩ := hSw; go_simp; first | done | with_reducible rfl
        simp only [List.getElem_toArray, List.getElem_cons_succ, List.getElem_cons_zero, Act.put, List.setIfInBounds_toArray, List.set_cons_zero, List.set_cons_succ]
        refine wpAnyH_take (i := 31) (v := ?_) rfl (by kernel_rfl) (by kernel_rfl) (by kernel_rfl) (fun _ _ _ h => h) (Or.inl ⟨by rfl, fun w hSw => ?_⟩) hHeld ?_
        rotate_left
        · obtain ⟨t0, t1, t2, t3, t4, t5, t6, t7, t8, t9, -⟩ := hSw; go_simp; first | done | with_reducible rfl
        simp only [List.getElem_toArray, List.getElem_cons_succ, List.getElem_cons_zero, Act.put, List.setIfInBounds_toArray, List.set_cons_zero, List.set_cons_succ]
        refine wpAnyH_take (i := 32) (v := ?_) rfl (by kernel_rfl) (by kernel_rfl) (by kernel_rfl) (fun _ _ _ h => h) (Or.inl ⟨by rfl, fun w hSw => ?_⟩) hHeld ?_
        rotate_left
        · obtain ⟨t0, t1, t2, t3, t4, t5, t6, t7, t8, t9, -⟩ := hSw; go_simp; first | done | with_reducible rfl
        simp only [List.getElem_toArray, List.getElem_cons_succ, List.getElem_cons_zero, Act.put, List.setIfInBounds_toArray, List.set_cons_zero, List.set_cons_succ]
        refine wpAnyH_done (by kernel_rfl) ?_ _
        go_wp2_with fail
        go_ret
        exact ⟨by first | rfl | simp, hB7.trans (hHeld.2.2.2.2.2.2.2.2.2.2.mono hB7.size)⟩
    | true =>
      obtain ⟨c0, c1, c2, c3, c4, c5, c6, c7, c8, c9, hB⟩ := ht5.out
      go_wp2_with fail
      refine (KLK.out _ hB).mono ?_
      rintro e x6 ⟨rfl, hx6⟩
      have ht6 := hide (held10 ht5.out hx6)
      clear ht5 hx6
      clear c0 c1 c2 c3 c4 c5 c6 c7 c8 c9 hB
      obtain ⟨c0, c1, c2, c3, c4, c5, c6, c7, c8, c9, hB⟩ := ht6.out
      go_wp2_with fail
      refine (KKQ.out _ hB).mono ?_
      rintro e x7 ⟨rfl, hx7⟩
      have ht7 := hide (held10 ht6.out hx7)
      clear ht6 hx7
      clear c0 c1 c2 c3 c4 c5 c6 c7 c8 c9 hB
      obtain ⟨c0, c1, c2, c3, c4, c5, c6, c7, c8, c9, hB⟩ := ht7.out
      go_wp2_with fail
      refine (KLQ.out _ hB).mono ?_
      rintro e x8 ⟨rfl, hx8⟩
      have ht8 := hide (held10 ht7.out hx8)
      clear ht7 hx8
      clear c0 c1 c2 c3 c4 c5 c6 c7 c8 c9 hB
      obtain ⟨c0, c1, c2, c3, c4, c5, c6, c7, c8, c9, hB⟩ := ht8.out
      go_wp2_with fail
      refine (KLK.out _ hB).mono ?_
      rintro e x9 ⟨rfl, hx9⟩
      have ht9 := hide (held10 ht8.out hx9)
      clear ht8 hx9
      clear c0 c1 c2 c3 c4 c5 c6 c7 c8 c9 hB
      cases f4 with
      | false =>
        obtain ⟨c0, c1, c2, c3, c4, c5, c6, c7, c8, c9, hB⟩ := ht9.out
        go_wp2_with fail
        refine (KKL.out _ hB).mono ?_
        rintro e x10 ⟨rfl, hx10⟩
        have ht10 := hide (held10 ht9.out hx10)
        clear ht9 hx10
        clear c0 c1 c2 c3 c4 c5 c6 c7 c8 c9 hB
        obtain ⟨c0, c1, c2, c3, c4, c5, c6, c7, c8, c9, hB⟩ := ht10.out
        go_wp2_with fail
        refine wp_region_held_drew (S := fun W => W.cell? ⟨w.heap.size + 1, 0, none⟩ = some (.slice a1 l.r.length k1) ∧ W.cell? ⟨w.heap.size + 1, 1, none⟩ = some (.slice a2 l.w.length k2) ∧ W.cell? ⟨w.heap.size + 1 + 1, 0, none⟩ = some (.slice a3 k.r.length k3) ∧ W.cell? ⟨w.heap.size + 1 + 1, 1, none⟩ = some (.slice a4 k.w.length k4) ∧ W.cell? ⟨w.heap.size + 1 + 1 + 1, 0, none⟩ = some (.slice a5 q.r.length k5) ∧ W.cell? ⟨w.heap.size + 1 + 1 + 1, 1, none⟩ = some (.slice a6 q.w.length k6) ∧ W.cell? ⟨w2.heap.size, 0, none⟩ = some (.slice a7 (joinL l k n).r.length k7) ∧ W.cell? ⟨w2.heap.size, 1, none⟩ = some (.slice a8 (joinL l k n).w.length k8) ∧ W.cell? ⟨w4.heap.size, 0, none⟩ = some (.slice a9 (meetL l k n).r.length k9) ∧ W.cell? ⟨w4.heap.size, 1, none⟩ = some (.slice a10 (meetL l k n).w.length k10) ∧ Below w7.heap.size w7 W) (by kernel_rfl) ⟨c0, c1, c2, c3, c4, c5, c6, c7, c8, c9, below_drewN hB 1⟩ (fun hHeld => ?_)
        clear ht10 c0 c1 c2 c3 c4 c5 c6 c7 c8 c9 hB KLL KLJ KKJ KML KMK KLK KKL KSL TR AN
        refine wpAnyH_take (i := 0) (v := ?_) rfl (by kernel_rfl) (by kernel_rfl) (by kernel_rfl) (fun _ _ _ h => h) (Or.inl ⟨by rfl, fun w hSw => ?_⟩) hHeld ?_
        rotate_left
        · obtain ⟨t0, t1, t2, t3, t4, t5, t6, t7, t8, t9, -⟩ := hSw; go_simp; first | done | with_reducible rfl
        simp only [List.getElem_toArray, List.getElem_cons_zero, Act.put, List.setIfInBounds_toArray, List.set_cons_zero, List.set_cons_succ]
        refine wpAnyH_take (i := 1) (v := ?_) rfl (by kernel_rfl) (by kernel_rfl) (by kernel_rfl) (fun _ _ _ h => h) (Or.inl ⟨by rfl, fun w hSw => ?_⟩) hHeld ?_
        rotate_left
        · obtain ⟨t0, t1, t2, t3, t4, t5, t6, t7, t8, t9, -⟩ := hSw; go_simp; first | done | with_reducible rfl
        simp only [List.getElem_toArray, List.getElem_cons_succ, List.getElem_cons_zero, Act.put, List.setIfInBounds_toArray, List.set_cons_zero, List.set_cons_succ]
        refine wpAnyH_take (i := 2) (v := ?_) rfl (by kernel_rfl) (by kernel_rfl) (by kernel_rfl) (fun _ _ _ h => h) (Or.inl ⟨by rfl, fun w hSw => ?_⟩) hHeld ?_
        rotate_left
        · obtain ⟨t0, t1, t2, t3, t4, t5, t6, t7, t8, t9, -⟩ := hSw; go_simp; first | done | with_reducible rfl
        simp only [List.getElem_toArray, List.getElem_cons_succ, List.getElem_cons_zero, Act.put, List.setIfInBounds_toArray, List.set_cons_zero, List.set_cons_succ]
        refine wpAnyH_take (i := 4) (v := ?_) rfl (by kernel_rfl) (by kernel_rfl) (by kernel_rfl) (fun _ _ _ h => h) (Or.inl ⟨by rfl, fun w hSw => ?_⟩) hHeld ?_
        rotate_left
        · obtain ⟨t0, t1, t2, t3, t4, t5, t6, t7, t8, t9, -⟩ := hSw; go_simp; first | done | with_reducible rfl
        simp only [List.getElem_toArray, List.getElem_cons_succ, List.getElem_cons_zero, Act.put, List.setIfInBounds_toArray, List.set_cons_zero, List.set_cons_succ]
        refine wpAnyH_take (i := 5) (v := ?_) rfl (by kernel_rfl) (by kernel_rfl) (by kernel_rfl) (fun _ _ _ h => h) (Or.inl ⟨by rfl, fun w hSw => ?_⟩) hHeld ?_
        rotate_left
        · obtain ⟨t0, t1, t2, t3, t4, t5, t6, t7, t8, t9, -⟩ := hSw; go_simp; first | done | with_reducible rfl
        simp only [List.getElem_toArray, List.getElem_cons_succ, List.getElem_cons_zero, Act.put, List.setIfInBounds_toArray, List.set_cons_zero, List.set_cons_succ]
        refine wpAnyH_take (i := 6) (v := ?_) rfl (by kernel_rfl) (by kernel_rfl) (by kernel_rfl) (fun _ _ _ h => h) (Or.inl ⟨by rfl, fun w hSw => ?_⟩) hHeld ?_
        rotate_left
        · obtain ⟨t0, t1, t2, t3, t4, t5, t6, t7, t8, t9, -⟩ := hSw; go_simp; first | done | with_reducible rfl
        simp only [List.getElem_toArray, List.getElem_cons_succ, List.getElem_cons_zero, Act.put, List.setIfInBounds_toArray, List.set_cons_zero, List.set_cons_succ]
        refine wpAnyH_ready (rs := [3]) (by kernel_rfl) (by simp) ?_
        refine AllReadyH.cons rfl (fun K hK => ?_) AllReadyH.nil
        go_simp
        go_at_call 23
        refine (KJQ.out _ hHeld.2.2.2.2.2.2.2.2.2.2).mono ?_
        rintro e y3 ⟨rfl, hy3⟩
        refine hK.out _ _ (held10 hHeld hy3) (fun hHeld => ?_)
        refine wpAnyH_ready (rs := [7]) (by kernel_rfl) (by simp) ?_
        refine AllReadyH.cons rfl (fun K hK => ?_) AllReadyH.nil
        go_simp
        go_at_call 23
        refine (KLQ.out _ hHeld.2.2.2.2.2.2.2.2.2.2).mono ?_
        rintro e y7 ⟨rfl, hy7⟩
        refine hK.out _ _ (held10 hHeld hy7) (fun hHeld => ?_)
        refine wpAnyH_take (i := 8) (v := ?_) rfl (by kernel_rfl) (by kernel_rfl) (by kernel_rfl) (fun _ _ _ h => h) (Or.inl ⟨by rfl, fun w hSw => ?_⟩) hHeld ?_
        rotate_left
        · obtain ⟨t0, t1, t2, t3, t4, t5, t6, t7, t8, t9, -⟩ := hSw; go_simp; first | done | with_reducible rfl
        simp only [List.getElem_toArray, List.getElem_cons_succ, List.getElem_cons_zero, Act.put, List.setIfInBounds_toArray, List.set_cons_zero, List.set_cons_succ]
        refine wpAnyH_take (i := 9) (v := ?_) rfl (by kernel_rfl) (by kernel_rfl) (by kernel_rfl) (fun _ _ _ h => h) (Or.inl ⟨by rfl, fun w hSw => ?_⟩) hHeld ?_
        rotate_left
        · obtain ⟨t0, t1, t2, t3, t4, t5, t6, t7, t8, t9, -⟩ := hSw; go_simp; first | done | with_reducible rfl
        simp only [List.getElem_toArray, List.getElem_cons_succ, List.getElem_cons_zero, Act.put, List.setIfInBounds_toArray, List.set_cons_zero, List.set_cons_succ]
        refine wpAnyH_take (i := 10) (v := ?_) rfl (by kernel_rfl) (by kernel_rfl) (by kernel_rfl) (fun _ _ _ h => h) (Or.inl ⟨by rfl, fun w hSw => ?_⟩) hHeld ?_
        rotate_left
        · obtain ⟨t0, t1, t2, t3, t4, t5, t6, t7, t8, t9, -⟩ := hSw; go_simp; first | done | with_reducible rfl
        simp only [List.getElem_toArray, List.getElem_cons_succ, List.getElem_cons_zero, Act.put, List.setIfInBounds_toArray, List.set_cons_zero, List.set_cons_succ]
        refine wpAnyH_take (i := 11) (v := ?_) rfl (by kernel_rfl) (by kernel_rfl) (by kernel_rfl) (fun _ _ _ h => h) (Or.inl ⟨by rfl, fun w hSw => ?_⟩) hHeld ?_
        rotate_left
        · obtain ⟨t0, t1, t2, t3, t4, t5, t6, t7, t8, t9, -⟩ := hSw; go_simp; first | done | with_reducible rfl
        simp only [List.getElem_toArray, List.getElem_cons_succ, List.getElem_cons_zero, Act.put, List.setIfInBounds_toArray, List.set_cons_zero, List.set_cons_succ]
        refine wpAnyH_ready (rs := [12]) (by kernel_rfl) (by simp) ?_
        refine AllReadyH.cons rfl (fun K hK => ?_) AllReadyH.nil
        go_simp
        go_at_call 23
        refine (KKQ.out _ hHeld.2.2.2.2.2.2.2.2.2.2).mono ?_
        rintro e y12 ⟨rfl, hy12⟩
        refine hK.out _ _ (held10 hHeld hy12) (fun hHeld => ?_)
        refine wpAnyH_take (i := 13) (v := ?_) rfl (by kernel_rfl) (by kernel_rfl) (by kernel_rfl) (fun _ _ _ h => h) (Or.inl ⟨by rfl, fun w hSw => ?_⟩) hHeld ?_
        rotate_left
        · obtain ⟨t0, t1, t2, t3, t4, t5, t6, t7, t8, t9, -⟩ := hSw; go_simp; first | done | with_reducible rfl
        simp only [List.getElem_toArray, List.getElem_cons_succ, List.getElem_cons_zero, Act.put, List.setIfInBounds_toArray, List.set_cons_zero, List.set_cons_succ]
        refine wpAnyH_take (i := 14) (v := ?_) rfl (by kernel_rfl) (by kernel_rfl) (by kernel_rfl) (fun _ _ _ h => h) (Or.inl ⟨by rfl, fun w hSw => ?_⟩) hHeld ?_
        rotate_left
        · obtain ⟨t0, t1, t2, t3, t4, t5, t6, t7, t8, t9, -⟩ := hSw; go_simp; first | done | with_reducible rfl
        simp only [List.getElem_toArray, List.getElem_cons_succ, List.getElem_cons_zero, Act.put, List.setIfInBounds_toArray, List.set_cons_zero, List.set_cons_succ]
        refine wpAnyH_take (i := 15) (v := ?_) rfl (by kernel_rfl) (by kernel_rfl) (by kernel_rfl) (fun _ _ _ h => h) (Or.inl ⟨by rfl, fun w hSw => ?_⟩) hHeld ?_
        rotate_left
        · obtain ⟨t0, t1, t2, t3, t4, t5, t6, t7, t8, t9, -⟩ := hSw; go_simp; first | done | with_reducible rfl
        simp only [List.getElem_toArray, List.getElem_cons_succ, List.getElem_cons_zero, Act.put, List.setIfInBounds_toArray, List.set_cons_zero, List.set_cons_succ]
        refine wpAnyH_take (i := 16) (v := ?_) rfl (by kernel_rfl) (by kernel_rfl) (by kernel_rfl) (fun _ _ _ h => h) (Or.inl ⟨by rfl, fun w hSw => ?_⟩) hHeld ?_
        rotate_left
        · obtain ⟨t0, t1, t2, t3, t4, t5, t6, t7, t8, t9, -⟩ := hSw; go_simp; first | done | with_reducible rfl
        simp only [List.getElem_toArray, List.getElem_cons_succ, List.getElem_cons_zero, Act.put, List.setIfInBounds_toArray, List.set_cons_zero, List.set_cons_succ]
        refine wpAnyH_take (i := 17) (v := ?_) rfl (by kernel_rfl) (by kernel_rfl) (by kernel_rfl) (fun _ _ _ h => h) (Or.inl ⟨by rfl, fun w hSw => ?_⟩) hHeld ?_
        rotate_left
        · obtain ⟨t0, t1, t2, t3, t4, t5, t6, t7, t8, t9, -⟩ := hSw; go_simp; first | done | with_reducible rfl
        simp only [List.getElem_toArray, List.getElem_cons_succ, List.getElem_cons_zero, Act.put, List.setIfInBounds_toArray, List.set_cons_zero, List.set_cons_succ]
        refine wpAnyH_take (i := 18) (v := ?_) rfl (by kernel_rfl) (by kernel_rfl) (by kernel_rfl) (fun _ _ _ h => h) (Or.inl ⟨by rfl, fun w hSw => ?_⟩) hHeld ?_
        rotate_left
        · obtain ⟨t0, t1, t2, t3, t4, t5, t6, t7, t8, t9, -⟩ := hSw; go_simp; first | done | with_reducible rfl
        simp only [List.getElem_toArray, List.getElem_cons_succ, List.getElem_cons_zero, Act.put, List.setIfInBounds_toArray, List.set_cons_zero, List.set_cons_succ]
        refine wpAnyH_take (i := 20) (v := ?_) rfl (by kernel_rfl) (by kernel_rfl) (by kernel_rfl) (fun _ _ _ h => h) (Or.inl ⟨by rfl, fun w hSw => ?_⟩) hHeld ?_
        rotate_left
        · obtain ⟨t0, t1, t2, t3, t4, t5, t6, t7, t8, t9, -⟩ := hSw; go_simp; first | done | with_reducible rfl
        simp only [List.getElem_toArray, List.getElem_cons_succ, List.getElem_cons_zero, Act.put, List.setIfInBounds_toArray, List.set_cons_zero, List.set_cons_succ]
        refine wpAnyH_take (i := 21) (v := ?_) rfl (by kernel_rfl) (by kernel_rfl) (by kernel_rfl) (fun _ _ _ h => h) (Or.inl ⟨by rfl, fun w hSw => ?_⟩) hHeld ?_
        rotate_left
        · obtain ⟨t0, t1, t2, t3, t4, t5, t6, t7, t8, t9, -⟩ := hSw; go_simp; first | done | with_reducible rfl
        simp only [List.getElem_toArray, List.getElem_cons_succ, List.getElem_cons_zero, Act.put, List.setIfInBounds_toArray, List.set_cons_zero, List.set_cons_succ]
        refine wpAnyH_take (i := 22) (v := ?_) rfl (by kernel_rfl) (by kernel_rfl) (by kernel_rfl) (fun _ _ _ h => h) (Or.inl ⟨by rfl, fun w hSw => ?_⟩) hHeld ?_
        rotate_left
        · obtain ⟨t0, t1, t2, t3, t4, t5, t6, t7, t8, t9, -⟩ := hSw; go_simp; first | done | with_reducible rfl
        simp only [List.getElem_toArray, List.getElem_cons_succ, List.getElem_cons_zero, Act.put, List.setIfInBounds_toArray, List.set_cons_zero, List.set_cons_succ]
        refine wpAnyH_ready (rs := [19]) (by kernel_rfl) (by simp) ?_
        refine AllReadyH.cons rfl (fun K hK => ?_) AllReadyH.nil
        go_simp
        go_at_call 23
        refine (KQM.out _ hHeld.2.2.2.2.2.2.2.2.2.2).mono ?_
        rintro e y19 ⟨rfl, hy19⟩
        refine hK.out _ _ (held10 hHeld hy19) (fun hHeld => ?_)
        refine wpAnyH_ready (rs := [23]) (by kernel_rfl) (by simp) ?_
        refine AllReadyH.cons rfl (fun K hK => ?_) AllReadyH.nil
        go_simp
        go_at_call 23
        refine (KQL.out _ hHeld.2.2.2.2.2.2.2.2.2.2).mono ?_
        rintro e y23 ⟨rfl, hy23⟩
        refine hK.out _ _ (held10 hHeld hy23) (fun hHeld => ?_)
        refine wpAnyH_take (i := 24) (v := ?_) rfl (by kernel_rfl) (by kernel_rfl) (by kernel_rfl) (fun _ _ _ h => h) (Or.inl ⟨by rfl, fun w hSw => ?_⟩) hHeld ?_
        rotate_left
        · obtain ⟨t0, t1, t2, t3, t4, t5, t6, t7, t8, t9, -⟩ := hSw; go_simp; first | done | with_reducible rfl
        simp only [List.getElem_toArray, List.getElem_cons_succ, List.getElem_cons_zero, Act.put, List.setIfInBounds_toArray, List.set_cons_zero, List.set_cons_succ]
        refine wpAnyH_take (i := 25) (v := undef) rfl (by kernel_rfl) (by kernel_rfl) (by kernel_rfl) (fun _ _ _ h => h) (Or.inr ⟨by rfl, rfl⟩) hHeld ?_
        simp only [List.getElem_toArray, List.getElem_cons_succ, List.getElem_cons_zero, Act.put, List.setIfInBounds_toArray, List.set_cons_zero, List.set_cons_succ]
        refine wpAnyH_take (i := 26) (v := undef) rfl (by kernel_rfl) (by kernel_rfl) (by kernel_rfl) (fun _ _ _ h => h) (Or.inr ⟨by rfl, rfl⟩) hHeld ?_
        simp only [List.getElem_toArray, List.getElem_cons_succ, List.getElem_cons_zero, Act.put, List.setIfInBounds_toArray, List.set_cons_zero, List.set_cons_succ]
        refine wpAnyH_take (i := 27) (v := undef) rfl (by kernel_rfl) (by kernel_rfl) (by kernel_rfl) (fun _ _ _ h => h) (Or.inr ⟨by rfl, rfl⟩) hHeld ?_
        simp only [List.getElem_toArray, List.getElem_cons_succ, List.getElem_cons_zero, Act.put, List.setIfInBounds_toArray, List.set_cons_zero, List.set_cons_succ]
        refine wpAnyH_take (i := 28) (v := undef) rfl (by kernel_rfl) (by kernel_rfl) (by kernel_rfl) (fun _ _ _ h => h) (Or.inr ⟨by rfl, rfl⟩) hHeld ?_
        simp only [List.getElem_toArray, List.getElem_cons_succ, List.getElem_cons_zero, Act.put, List.setIfInBounds_toArray, List.set_cons_zero, List.set_cons_succ]
        refine wpAnyH_take (i := 29) (v := ?_) rfl (by kernel_rfl) (by kernel_rfl) (by kernel_rfl) (fun _ _ _ h => h) (Or.inl ⟨by rfl, fun w hSw => ?_⟩) hHeld ?_
        rotate_left
        · obtain ⟨t0, t1, t2, t3, t4, t5, t6, t7, t8, t9, -⟩ := hSw; go_simp; first | done | with_reducible rfl
        simp only [List.getElem_toArray, List.getElem_cons_succ, List.getElem_cons_zero, Act.put, List.setIfInBounds_toArray, List.set_cons_zero, List.set_cons_succ]
        refine wpAnyH_take (i := 30) (v := ?_) rfl (by kernel_rfl) (by kernel_rfl) (by kernel_rfl) (fun _ _ _ h => h) (Or.inl ⟨by rfl, fun w hSw => ?_⟩) hHeld ?_
        rotate_left
        · obtain ⟨t0, t1, t2, t3, t4, t5, t6, t7, t8, t9, -⟩ := hSw; go_simp; first | done | with_reducible rfl
        simp only [List.getElem_toArray, List.getElem_cons_succ, List.getElem_cons_zero, Act.put, List.setIfInBounds_toArray, List.set_cons_zero, List.set_cons_succ]
        refine wpAnyH_take (i := 31) (v := ?_) rfl (by kernel_rfl) (by kernel_rfl) (by kernel_rfl) (fun _ _ _ h => h) (Or.inl ⟨by rfl, fun w hSw => ?_⟩) hHeld ?_
        rotate_left
        · obtain ⟨t0, t1, t2, t3, t4, t5, t6, t7, t8, t9, -⟩ := hSw; go_simp; first | done | with_reducible rfl
        simp only [List.getElem_toArray, List.getElem_cons_succ, List.getElem_cons_zero, Act.put, List.setIfInBounds_toArray, List.set_cons_zero, List.set_cons_succ]
        refine wpAnyH_take (i := 32) (v := ?_) rfl (by kernel_rfl) (by kernel_rfl) (by kernel_rfl) (fun _ _ _ h => h) (Or.inl ⟨by rfl, fun w hSw => ?_⟩) hHeld ?_
        rotate_left
        · obtain ⟨t0, t1, t2, t3, t4, t5, t6, t7, t8, t9, -⟩ := hSw; go_simp; first | done | with_reducible rfl
        simp only [List.getElem_toArray, List.getElem_cons_succ, List.getElem_cons_zero, Act.put, List.setIfInBounds_toArray, List.set_cons_zero, List.set_cons_succ]
        refine wpAnyH_done (by kernel_rfl) ?_ _
        go_wp2_with fail
        go_ret
        exact ⟨by first | rfl | simp, hB7.trans (hHeld.2.2.2.2.2.2.2.2.2.2.mono hB7.size)⟩
      | true =>
        have hs1 := AN.out (by first | rfl | trivial) (by first | rfl | trivial)
        subst hs1
        obtain ⟨c0, c1, c2, c3, c4, c5, c6, c7, c8, c9, hB⟩ := ht9.out
        go_wp2_with fail
        refine (KKL.out _ hB).mono ?_
        rintro e x10 ⟨rfl, hx10⟩
        have ht10 := hide (held10 ht9.out hx10)
        clear ht9 hx10
        clear c0 c1 c2 c3 c4 c5 c6 c7 c8 c9 hB
        obtain ⟨c0, c1, c2, c3, c4, c5, c6, c7, c8, c9, hB⟩ := ht10.out
        go_wp2_with fail
        refine (KSL.out _ hB).mono ?_
        rintro e x11 ⟨rfl, hx11⟩
        have ht11 := hide (held10 ht10.out hx11)
        clear ht10 hx11
        clear c0 c1 c2 c3 c4 c5 c6 c7 c8 c9 hB
        obtain ⟨c0, c1, c2, c3, c4, c5, c6, c7, c8, c9, hB⟩ := ht11.out
        go_wp2_with fail
        refine wp_region_held_drew (S := fun W => W.cell? ⟨w.heap.size + 1, 0, none⟩ = some (.slice a1 l.r.length k1) ∧ W.cell? ⟨w.heap.size + 1, 1, none⟩ = some (.slice a2 l.w.length k2) ∧ W.cell? ⟨w.heap.size + 1 + 1, 0, none⟩ = some (.slice a3 k.r.length k3) ∧ W.cell? ⟨w.heap.size + 1 + 1, 1, none⟩ = some (.slice a4 k.w.length k4) ∧ W.cell? ⟨w.heap.size + 1 + 1 + 1, 0, none⟩ = some (.slice a5 q.r.length k5) ∧ W.cell? ⟨w.heap.size + 1 + 1 + 1, 1, none⟩ = some (.slice a6 q.w.length k6) ∧ W.cell? ⟨w2.heap.size, 0, none⟩ = some (.slice a7 (joinL l k n).r.length k7) ∧ W.cell? ⟨w2.heap.size, 1, none⟩ = some (.slice a8 (joinL l k n).w.length k8) ∧ W.cell? ⟨w4.heap.size, 0, none⟩ = some (.slice a9 (meetL l k n).r.length k9) ∧ W.cell? ⟨w4.heap.size, 1, none⟩ = some (.slice a10 (meetL l k n).w.length k10) ∧ Below w7.heap.size w7 W) (by kernel_rfl) ⟨c0, c1, c2, c3, c4, c5, c6, c7, c8, c9, below_drewN hB 1⟩ (fun hHeld => ?_)
        clear ht11 c0 c1 c2 c3 c4 c5 c6 c7 c8 c9 hB KLL KLJ KKJ KML KMK KLK KKL KSL TR AN
        refine wpAnyH_take (i := 0) (v := ?_) rfl (by kernel_rfl) (by kernel_rfl) (by kernel_rfl) (fun _ _ _ h => h) (Or.inl ⟨by rfl, fun w hSw => ?_⟩) hHeld ?_
        rotate_left
        · obtain ⟨t0, t1, t2, t3, t4, t5, t6, t7, t8, t9, -⟩ := hSw; go_simp; first | done | with_reducible rfl
        simp only [List.getElem_toArray, List.getElem_cons_zero, Act.put, List.setIfInBounds_toArray, List.set_cons_zero, List.set_cons_succ]
        refine wpAnyH_take (i := 1) (v := ?_) rfl (by kernel_rfl) (by kernel_rfl) (by kernel_rfl) (fun _ _ _ h => h) (Or.inl ⟨by rfl, fun w hSw => ?_⟩) hHeld ?_
        rotate_left
        · obtain ⟨t0, t1, t2, t3, t4, t5, t6, t7, t8, t9, -⟩ := hSw; go_simp; first | done | with_reducible rfl
        simp only [List.getElem_toArray, List.getElem_cons_succ, List.getElem_cons_zero, Act.put, List.setIfInBounds_toArray, List.set_cons_zero, List.set_cons_succ]
        refine wpAnyH_take (i := 2) (v := ?_) rfl (by kernel_rfl) (by kernel_rfl) (by kernel_rfl) (fun _ _ _ h => h) (Or.inl ⟨by rfl, fun w hSw => ?_⟩) hHeld ?_
        rotate_left
        · obtain ⟨t0, t1, t2, t3, t4, t5, t6, t7, t8, t9, -⟩ := hSw; go_simp; first | done | with_reducible rfl
        simp only [List.getElem_toArray, List.getElem_cons_succ, List.getElem_cons_zero, Act.put, List.setIfInBounds_toArray, List.set_cons_zero, List.set_cons_succ]
        refine wpAnyH_take (i := 4) (v := ?_) rfl (by kernel_rfl) (by kernel_rfl) (by kernel_rfl) (fun _ _ _ h => h) (Or.inl ⟨by rfl, fun w hSw => ?_⟩) hHeld ?_
        rotate_left
        · obtain ⟨t0, t1, t2, t3, t4, t5, t6, t7, t8, t9, -⟩ := hSw; go_simp; first | done | with_reducible rfl
        simp only [List.getElem_toArray, List.getElem_cons_succ, List.getElem_cons_zero, Act.put, List.setIfInBounds_toArray, List.set_cons_zero, List.set_cons_succ]
        refine wpAnyH_take (i := 5) (v := ?_) rfl (by kernel_rfl) (by kernel_rfl) (by kernel_rfl) (fun _ _ _ h => h) (Or.inl ⟨by rfl, fun w hSw => ?_⟩) hHeld ?_
        rotate_left
        · obtain ⟨t0, t1, t2, t3, t4, t5, t6, t7, t8, t9, -⟩ := hSw; go_simp; first | done | with_reducible rfl
        simp only [List.getElem_toArray, List.getElem_cons_succ, List.getElem_cons_zero, Act.put, List.setIfInBounds_toArray, List.set_cons_zero, List.set_cons_succ]
        refine wpAnyH_take (i := 6) (v := ?_) rfl (by kernel_rfl) (by kernel_rfl) (by kernel_rfl) (fun _ _ _ h => h) (Or.inl ⟨by rfl, fun w hSw => ?_⟩) hHeld ?_
        rotate_left
        · obtain ⟨t0, t1, t2, t3, t4, t5, t6, t7, t8, t9, -⟩ := hSw; go_simp; first | done | with_reducible rfl
        simp only [List.getElem_toArray, List.getElem_cons_succ, List.getElem_cons_zero, Act.put, List.setIfInBounds_toArray, List.set_cons_zero, List.set_cons_succ]
        refine wpAnyH_ready (rs := [3]) (by kernel_rfl) (by simp) ?_
        refine AllReadyH.cons rfl (fun K hK => ?_) AllReadyH.nil
        go_simp
        go_at_call 23
        refine (KJQ.out _ hHeld.2.2.2.2.2.2.2.2.2.2).mono ?_
        rintro e y3 ⟨rfl, hy3⟩
        refine hK.out _ _ (held10 hHeld hy3) (fun hHeld => ?_)
        refine wpAnyH_ready (rs := [7]) (by kernel_rfl) (by simp) ?_
        refine AllReadyH.cons rfl (fun K hK => ?_) AllReadyH.nil
        go_simp
        go_at_call 23
        refine (KLQ.out _ hHeld.2.2.2.2.2.2.2.2.2.2).mono ?_
        rintro e y7 ⟨rfl, hy7⟩
        refine hK.out _ _ (held10 hHeld hy7) (fun hHeld => ?_)
        refine wpAnyH_take (i := 8) (v := ?_) rfl (by kernel_rfl) (by kernel_rfl) (by kernel_rfl) (fun _ _ _ h => h) (Or.inl ⟨by rfl, fun w hSw => ?_⟩) hHeld ?_
        rotate_left
        · obtain ⟨t0, t1, t2, t3, t4, t5, t6, t7, t8, t9, -⟩ := hSw; go_simp; first | done | with_reducible rfl
        simp only [List.getElem_toArray, List.getElem_cons_succ, List.getElem_cons_zero, Act.put, List.setIfInBounds_toArray, List.set_cons_zero, List.set_cons_succ]
        refine wpAnyH_take (i := 9) (v := ?_) rfl (by kernel_rfl) (by kernel_rfl) (by kernel_rfl) (fun _ _ _ h => h) (Or.inl ⟨by rfl, fun w hSw => ?_⟩) hHeld ?_
        rotate_left
        · obtain ⟨t0, t1, t2, t3, t4, t5, t6, t7, t8, t9, -⟩ := hSw; go_simp; first | done | with_reducible rfl
        simp only [List.getElem_toArray, List.getElem_cons_succ, List.getElem_cons_zero, Act.put, List.setIfInBounds_toArray, List.set_cons_zero, List.set_cons_succ]
        refine wpAnyH_take (i := 10) (v := ?_) rfl (by kernel_rfl) (by kernel_rfl) (by kernel_rfl) (fun _ _ _ h => h) (Or.inl ⟨by rfl, fun w hSw => ?_⟩) hHeld ?_
        rotate_left
        · obtain ⟨t0, t1, t2, t3, t4, t5, t6, t7, t8, t9, -⟩ := hSw; go_simp; first | done | with_reducible rfl
        simp only [List.getElem_toArray, List.getElem_cons_succ, List.getElem_cons_zero, Act.put, List.setIfInBounds_toArray, List.set_cons_zero, List.set_cons_succ]
        refine wpAnyH_take (i := 11) (v := ?_) rfl (by kernel_rfl) (by kernel_rfl) (by kernel_rfl) (fun _ _ _ h => h) (Or.inl ⟨by rfl, fun w hSw => ?_⟩) hHeld ?_
        rotate_left
        · obtain ⟨t0, t1, t2, t3, t4, t5, t6, t7, t8, t9, -⟩ := hSw; go_simp; first | done | with_reducible rfl
        simp only [List.getElem_toArray, List.getElem_cons_succ, List.getElem_cons_zero, Act.put, List.setIfInBounds_toArray, List.set_cons_zero, List.set_cons_succ]
        refine wpAnyH_ready (rs := [12]) (by kernel_rfl) (by simp) ?_
        refine AllReadyH.cons rfl (fun K hK => ?_) AllReadyH.nil
        go_simp
        go_at_call 23
        refine (KKQ.out _ hHeld.2.2.2.2.2.2.2.2.2.2).mono ?_
        rintro e y12 ⟨rfl, hy12⟩
        refine hK.out _ _ (held10 hHeld hy12) (fun hHeld => ?_)
        refine wpAnyH_take (i := 13) (v := ?_) rfl (by kernel_rfl) (by kernel_rfl) (by kernel_rfl) (fun _ _ _ h => h) (Or.inl ⟨by rfl, fun w hSw => ?_⟩) hHeld ?_
        rotate_left
        · obtain ⟨t0, t1, t2, t3, t4, t5, t6, t7, t8, t9, -⟩ := hSw; go_simp; first | done | with_reducible rfl
        simp only [List.getElem_toArray, List.getElem_cons_succ, List.getElem_cons_zero, Act.put, List.setIfInBounds_toArray, List.set_cons_zero, List.set_cons_succ]
        refine wpAnyH_take (i := 14) (v := ?_) rfl (by kernel_rfl) (by kernel_rfl) (by kernel_rfl) (fun _ _ _ h => h) (Or.inl ⟨by rfl, fun w hSw => ?_⟩) hHeld ?_
        rotate_left
        · obtain ⟨t0, t1, t2, t3, t4, t5, t6, t7, t8, t9, -⟩ := hSw; go_simp; first | done | with_reducible rfl
        simp only [List.getElem_toArray, List.getElem_cons_succ, List.getElem_cons_zero, Act.put, List.setIfInBounds_toArray, List.set_cons_zero, List.set_cons_succ]
        refine wpAnyH_take (i := 15) (v := ?_) rfl (by kernel_rfl) (by kernel_rfl) (by kernel_rfl) (fun _ _ _ h => h) (Or.inl ⟨by rfl, fun w hSw => ?_⟩) hHeld ?_
        rotate_left
        · obtain ⟨t0, t1, t2, t3, t4, t5, t6, t7, t8, t9, -⟩ := hSw; go_simp; first | done | with_reducible rfl
        simp only [List.getElem_toArray, List.getElem_cons_succ, List.getElem_cons_zero, Act.put, List.setIfInBounds_toArray, List.set_cons_zero, List.set_cons_succ]
        refine wpAnyH_take (i := 16) (v := ?_) rfl (by kernel_rfl) (by kernel_rfl) (by kernel_rfl) (fun _ _ _ h => h) (Or.inl ⟨by rfl, fun w hSw => ?_⟩) hHeld ?_
        rotate_left
        · obtain ⟨t0, t1, t2, t3, t4, t5, t6, t7, t8, t9, -⟩ := hSw; go_simp; first | done | with_reducible rfl
        simp only [List.getElem_toArray, List.getElem_cons_succ, List.getElem_cons_zero, Act.put, List.setIfInBounds_toArray, List.set_cons_zero, List.set_cons_succ]
        refine wpAnyH_take (i := 17) (v := ?_) rfl (by kernel_rfl) (by kernel_rfl) (by kernel_rfl) (fun _ _ _ h => h) (Or.inl ⟨by rfl, fun w hSw => ?_⟩) hHeld ?_
        rotate_left
        · obtain ⟨t0, t1, t2, t3, t4, t5, t6, t7, t8, t9, -⟩ := hSw; go_simp; first | done | with_reducible rfl
        simp only [List.getElem_toArray, List.getElem_cons_succ, List.getElem_cons_zero, Act.put, List.setIfInBounds_toArray, List.set_cons_zero, List.set_cons_succ]
        refine wpAnyH_take (i := 18) (v := ?_) rfl (by kernel_rfl) (by kernel_rfl) (by kernel_rfl) (fun _ _ _ h => h) (Or.inl ⟨by rfl, fun w hSw => ?_⟩) hHeld ?_
        rotate_left
        · obtain ⟨t0, t1, t2, t3, t4, t5, t6, t7, t8, t9, -⟩ := hSw; go_simp; first | done | with_reducible rfl
        simp only [List.getElem_toArray, List.getElem_cons_succ, List.getElem_cons_zero, Act.put, List.setIfInBounds_toArray, List.set_cons_zero, List.set_cons_succ]
        refine wpAnyH_take (i := 20) (v := ?_) rfl (by kernel_rfl) (by kernel_rfl) (by kernel_rfl) (fun _ _ _ h => h) (Or.inl ⟨by rfl, fun w hSw => ?_⟩) hHeld ?_
        rotate_left
        · obtain ⟨t0, t1, t2, t3, t4, t5, t6, t7, t8, t9, -⟩ := hSw; go_simp; first | done | with_reducible rfl
        simp only [List.getElem_toArray, List.getElem_cons_succ, List.getElem_cons_zero, Act.put, List.setIfInBounds_toArray, List.set_cons_zero, List.set_cons_succ]
        refine wpAnyH_take (i := 21) (v := ?_) rfl (by kernel_rfl) (by kernel_rfl) (by kernel_rfl) (fun _ _ _ h => h) (Or.inl ⟨by rfl, fun w hSw => ?_⟩) hHeld ?_
        rotate_left
        · obtain ⟨t0, t1, t2, t3, t4, t5, t6, t7, t8, t9, -⟩ := hSw; go_simp; first | done | with_reducible rfl
        simp only [List.getElem_toArray, List.getElem_cons_succ, List.getElem_cons_zero, Act.put, List.setIfInBounds_toArray, List.set_cons_zero, List.set_cons_succ]
        refine wpAnyH_take (i := 22) (v := ?_) rfl (by kernel_rfl) (by kernel_rfl) (by kernel_rfl) (fun _ _ _ h => h) (Or.inl ⟨by rfl, fun w hSw => ?_⟩) hHeld ?_
        rotate_left
        · obtain ⟨t0, t1, t2, t3, t4, t5, t6, t7, t8, t9, -⟩ := hSw; go_simp; first | done | with_reducible rfl
        simp only [List.getElem_toArray, List.getElem_cons_succ, List.getElem_cons_zero, Act.put, List.setIfInBounds_toArray, List.set_cons_zero, List.set_cons_succ]
        refine wpAnyH_ready (rs := [19]) (by kernel_rfl) (by simp) ?_
        refine AllReadyH.cons rfl (fun K hK => ?_) AllReadyH.nil
        go_simp
        go_at_call 23
        refine (KQM.out _ hHeld.2.2.2.2.2.2.2.2.2.2).mono ?_
        rintro e y19 ⟨rfl, hy19⟩
        refine hK.out _ _ (held10 hHeld hy19) (fun hHeld => ?_)
        refine wpAnyH_ready (rs := [23]) (by kernel_rfl) (by simp) ?_
        refine AllReadyH.cons rfl (fun K hK => ?_) AllReadyH.nil
        go_simp
        go_at_call 23
        refine (KQL.out _ hHeld.2.2.2.2.2.2.2.2.2.2).mono ?_
        rintro e y23 ⟨rfl, hy23⟩
        refine hK.out _ _ (held10 hHeld hy23) (fun hHeld => ?_)
        refine wpAnyH_take (i := 24) (v := ?_) rfl (by kernel_rfl) (by kernel_rfl) (by kernel_rfl) (fun _ _ _ h => h) (Or.inl ⟨by rfl, fun w hSw => ?_⟩) hHeld ?_
        rotate_left
        · obtain ⟨t0, t1, t2, t3, t4, t5, t6, t7, t8, t9, -⟩ := hSw; go_simp; first | done | with_reducible rfl
        simp only [List.getElem_toArray, List.getElem_cons_succ, List.getElem_cons_zero, Act.put, List.setIfInBounds_toArray, List.set_cons_zero, List.set_cons_succ]
        refine wpAnyH_take (i := 25) (v := undef) rfl (by kernel_rfl) (by kernel_rfl) (by kernel_rfl) (fun _ _ _ h => h) (Or.inr ⟨by rfl, rfl⟩) hHeld ?_
        simp only [List.getElem_toArray, List.getElem_cons_succ, List.getElem_cons_zero, Act.put, List.setIfInBounds_toArray, List.set_cons_zero, List.set_cons_succ]
        refine wpAnyH_take (i := 26) (v := undef) rfl (by kernel_rfl) (by kernel_rfl) (by kernel_rfl) (fun _ _ _ h => h) (Or.inr ⟨by rfl, rfl⟩) hHeld ?_
        simp only [List.getElem_toArray, List.getElem_cons_succ, List.getElem_cons_zero, Act.put, List.setIfInBounds_toArray, List.set_cons_zero, List.set_cons_succ]
        refine wpAnyH_take (i := 27) (v := undef) rfl (by kernel_rfl) (by kernel_rfl) (by kernel_rfl) (fun _ _ _ h => h) (Or.inr ⟨by rfl, rfl⟩) hHeld ?_
        simp only [List.getElem_toArray, List.getElem_cons_succ, List.getElem_cons_zero, Act.put, List.setIfInBounds_toArray, List.set_cons_zero, List.set_cons_succ]
        refine wpAnyH_take (i := 28) (v := undef) rfl (by kernel_rfl) (by kernel_rfl) (by kernel_rfl) (fun _ _ _ h => h) (Or.inr ⟨by rfl, rfl⟩) hHeld ?_
        simp only [List.getElem_toArray, List.getElem_cons_succ, List.getElem_cons_zero, Act.put, List.setIfInBounds_toArray, List.set_cons_zero, List.set_cons_succ]
        refine wpAnyH_take (i := 29) (v := ?_) rfl (by kernel_rfl) (by kernel_rfl) (by kernel_rfl) (fun _ _ _ h => h) (Or.inl ⟨by rfl, fun w hSw => ?_⟩) hHeld ?_
        rotate_left
        · obtain ⟨t0, t1, t2, t3, t4, t5, t6, t7, t8, t9, -⟩ := hSw; go_simp; first | done | with_reducible rfl
        simp only [List.getElem_toArray, List.getElem_cons_succ, List.getElem_cons_zero, Act.put, List.setIfInBounds_toArray, List.set_cons_zero, List.set_cons_succ]
        refine wpAnyH_take (i := 30) (v := ?_) rfl (by kernel_rfl) (by kernel_rfl) (by kernel_rfl) (fun _ _ _ h => h) (Or.inl ⟨by rfl, fun w hSw => ?_⟩) hHeld ?_
        rotate_left
        · obtain ⟨t0, t1, t2, t3, t4, t5, t6, t7, t8, t9, -⟩ := hSw; go_simp; first | done | with_reducible rfl
        simp only [List.getElem_toArray, List.getElem_cons_succ, List.getElem_cons_zero, Act.put, List.setIfInBounds_toArray, List.set_cons_zero, List.set_cons_succ]
        refine wpAnyH_take (i := 31) (v := ?_) rfl (by kernel_rfl) (by kernel_rfl) (by kernel_rfl) (fun _ _ _ h => h) (Or.inl ⟨by rfl, fun w hSw => ?_⟩) hHeld ?_
        rotate_left
        · obtain ⟨t0, t1, t2, t3, t4, t5, t6, t7, t8, t9, -⟩ := hSw; go_simp; first | done | with_reducible rfl
        simp only [List.getElem_toArray, List.getElem_cons_succ, List.getElem_cons_zero, Act.put, List.setIfInBounds_toArray, List.set_cons_zero, List.set_cons_succ]
        refine wpAnyH_take (i := 32) (v := ?_) rfl (by kernel_rfl) (by kernel_rfl) (by kernel_rfl) (fun _ _ _ h => h) (Or.inl ⟨by rfl, fun w hSw => ?_⟩) hHeld ?_
        rotate_left
        · obtain ⟨t0, t1, t2, t3, t4, t5, t6, t7, t8, t9, -⟩ := hSw; go_simp; first | done | with_reducible rfl
        simp only [List.getElem_toArray, List.getElem_cons_succ, List.getElem_cons_zero, Act.put, List.setIfInBounds_toArray, List.set_cons_zero, List.set_cons_succ]
        refine wpAnyH_done (by kernel_rfl) ?_ _
        go_wp2_with fail
        go_ret
        exact ⟨by first | rfl | simp, hB7.trans (hHeld.2.2.2.2.2.2.2.2.2.2.mono hB7.size)⟩
end Go.Proofs.Ytekgnjifopgboaa
